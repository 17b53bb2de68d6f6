import PyProof.Rows.All
import Wide.All
import OpenK.AllK
import Wide.FinOn
import Lean
import PyProof.EqAt
import PyProof.EqKinds
import PyProof.TupleCall
import PyProof.SetRoads
import PyProof.SetNew
import PyProof.TupleKey
import PyProof.InstEq
import PySem.SetOps
import KE.KTryMore
import PyProof.NsDelKeeps
import KE.KIsAll
import KE.KItemsList
import KE.KSortTup
import KE.KDictSum
import KE.KLam
import KE.KNestM
import KE.KSortTup
import PySem.Challenge.RW_satchelmeet_k50_whole_some_letters_alone
open List renaming length_map → zA, getElem?_eq_some_iff → zB, getElem?_map → zC, mem_of_getElem? → zD, getElem?_eq_getElem → zE, map_append → zL, mem_singleton → zM, size_toArray → zN, mem_map → zQ, mem_cons → zR, mem_append_right → zS, length_append → zT, getElem_mem → zY, mem_append → zZ, map_cons → zc, take_of_length_le → zd, length_cons → zf, getElem?_append_right → zg, mem_cons_of_mem → zh, length_set → zj, map_map → zo, mem_range → zp, length_take → zq, getElem_map → zt, append_nil → zy, take_length → z4, mem_filter → z8, getElem?_append_left → yB, pairwise_iff_getElem → yC, idxOf_lt_length_iff → yD, getElem?_set → yF, map_congr_left → yH, lookup_cons → yI, length_nil → yK, mem_append_left → yL, pairwise_map → yN, filterMap_cons → yP, all_eq_true → yR, lookup → yS, mem_filterMap → yT, mem_cons_self → yU, nodup_cons → yV, find?_cons → yW, map_nil → yd, map_set → ye, any_cons → yg
open Int renaming toNat_natCast → zF, eq_ofNat_of_zero_le → zO, emod_lt_of_pos → yJ, emod_nonneg → yX, le_refl → yY, zero_add → yf
open Nat renaming le_refl → zG, ne_of_lt → zV, lt_of_lt_of_le → zW, zero_le → zb, le_trans → ze, lt_irrefl → zk, lt_succ_of_lt → z6, le_succ → yM, le_of_lt → yZ, lt_succ_self → yc, ne_of_gt → yi
open PySem.W renaming nsIn → zH, keepIn → zI, mg_of → zK, findIn → zP, mg_none_of → za, kia_one → zi, isFn → zn, emptyDict → zv, instObj → yG, kitOne → yQ, plainGet → yb, fnOf → yj, mroIn → yk
open Bool renaming false_ne_true → zJ, and_eq_true → zr, false_and → yE, true_and → yO, eq_iff_iff → yh
open PyProof.Rows renaming boot_isinstance → zU
open PySem.F renaming plainAttrs_list → zX, slot_list_append → zl, type_list_append → zm
open PySem renaming mem_of_lookup → zu
open Option renaming isSome_map → zw, isSome_iff_exists → zx, map_some → yA
set_option Elab.async false
set_option linter.all false
set_option maxRecDepth 100000
namespace L2
open PySem PySem.Spec PyProof.Rows
abbrev Key := Sum Int Str
def keyIs : Key -> Value -> Bool
 | .inl k, v => Value.isInt k v
 | .inr x, v => Value.isStrOf x v
def keyH (w : World) : Key -> Int
 | .inl k => hashInt k
 | .inr x => hashStr w x
theorem xT : ∀ {k : Key} {v : Value}, keyIs k v = true -> (∃ i t, k = Sum.inl i /\ v = Value.int i t) \/ (∃ x t, k = Sum.inr x /\ v = Value.str x t)
 | .inl i, v, h => by
  obtain ⟨t, e⟩ := Value.isInt_shape (k := i) (v := v) h
  exact .inl ⟨i, t, rfl, e⟩
 | .inr x, v, h => by
  obtain ⟨t, e⟩ := Value.isStrOf_shape (x := x) (v := v) h
  exact .inr ⟨x, t, rfl, e⟩
theorem keyIs_int (i : Int) (t : Tok) : keyIs (.inl i) (.int i t) = true := by simp [keyIs, Value.isInt]
theorem keyIs_str (x : Str) (t : Tok) : keyIs (.inr x) (.str x t) = true := by simp [keyIs, Value.isStrOf]
theorem key_ll (a b : Int) : decide ((Sum.inl a : Key) = Sum.inl b) = (a == b) := by
 by_cases e : a = b
 ·subst e; simp
 ·have h : ¬ (Sum.inl a : Key) = Sum.inl b := fun q => e (Sum.inl.inj q)
  rw [decide_eq_false h]
  exact (beq_eq_false_iff_ne.mpr e).symm
theorem key_rr (a b : Str) : decide ((Sum.inr a : Key) = Sum.inr b) = decide (a = b) := by
 by_cases e : a = b
 ·subst e; simp
 ·have h : ¬ (Sum.inr a : Key) = Sum.inr b := fun q => e (Sum.inr.inj q)
  rw [decide_eq_false h, decide_eq_false e]
theorem key_lr (a : Int) (b : Str) : decide ((Sum.inl a : Key) = Sum.inr b) = false := decide_eq_false (fun q => nomatch q)
theorem key_rl (a : Str) (b : Int) : decide ((Sum.inr a : Key) = Sum.inl b) = false := decide_eq_false (fun q => nomatch q)
def mixKind (prog : Program) (w : World) : PySem.KeyKind prog w Key where
 is := keyIs
 hash := keyH w
 inj := fun v a b ha hb => by
  rcases xT ha with ⟨i, t, rfl, rfl⟩ | ⟨x, t, rfl, rfl⟩
  ·rcases xT hb with ⟨j, u, rfl, e⟩ | ⟨y, u, rfl, e⟩
   ·injection e with e1 _; rw [e1]
   ·exact nomatch e
  ·rcases xT hb with ⟨j, u, rfl, e⟩ | ⟨y, u, rfl, e⟩
   ·exact nomatch e
   ·injection e with e1 _; rw [e1]
 byValue := fun k v h => by
  rcases xT h with ⟨i, t, rfl, rfl⟩ | ⟨x, t, rfl, rfl⟩ <;> rfl
 pyHash := fun hv h => by
  rcases xT hv with ⟨i, t, rfl, rfl⟩ | ⟨x, t, rfl, rfl⟩
  ·exact wpAny_pyHash_int h
  ·exact wpAny_pyHash_str h
 eqBool := fun hu hv h => by
  rcases xT hu with ⟨i, t, rfl, rfl⟩ | ⟨x, t, rfl, rfl⟩
  ·rcases xT hv with ⟨j, u, rfl, rfl⟩ | ⟨y, u, rfl, rfl⟩
   ·rw [key_ll] at h; exact wpAny_eqBool_int h
   ·rw [key_lr] at h; exact SeqAt.EqAt.int_str i t y u _ _ _ _ h
  ·rcases xT hv with ⟨j, u, rfl, rfl⟩ | ⟨y, u, rfl, rfl⟩
   ·rw [key_rl] at h; exact SeqAt.EqAt.str_int x t j u _ _ _ _ h
   ·rw [key_rr] at h; exact wpAny_eqBool_str h
 «strs» := fun k x t v h => by
  rcases xT h with ⟨i, u, rfl, e⟩ | ⟨y, u, rfl, e⟩
  ·exact nomatch e
  ·injection e with e1 _
   subst e1
   cases v <;> rfl
theorem mixKind_int (prog : Program) (w : World) (i : Int) (t : Tok) : (mixKind prog w).is (.inl i) (.int i t) = true := keyIs_int i t
theorem mixKind_str (prog : Program) (w : World) (x : Str) (t : Tok) : (mixKind prog w).is (.inr x) (.str x t) = true := keyIs_str x t
end L2
namespace L2
open PySem PySem.Spec PyProof.Rows
inductive V where
 | non | bl (b : Bool) | int (i : Int) | str (x : Str) | byt (b : Array UInt8) | flt (b : UInt64) | ref (a : Addr) | ty (n : String)
 deriving DecidableEq
def RelV : V -> Value -> Prop
 | .non, u => u = Value.none
 | .bl b, u => u = Value.bool b
 | .int i, u => ∃ t, u = Value.int i t
 | .str x, u => ∃ t, u = Value.str x t
 | .byt b, u => ∃ t, u = Value.bytes b t
 | .flt b, u => ∃ t, u = Value.float b t
 | .ref a, u => u = Value.ref a
 | .ty n, u => u = Value.type n
abbrev Vals : List V -> List Value -> Prop := Paired RelV
theorem Vals.length {xs : List V} {us : List Value} (r : Vals xs us) : xs.length = us.length := Paired.length r
theorem Vals.get : ∀ {xs : List V} {us : List Value} {i : Nat} {x : V}, Vals xs us -> xs[i]? = some x -> ∃ u, us[i]? = some u /\ RelV x u
 | _, _, _, _, .nil, e => by simp at e
 | _, _, 0, _, .cons r _, e => by simp at e; subst e; exact ⟨_, rfl, r⟩
 | _, _, i + 1, x, .cons _ t, e => by
  obtain ⟨u, h1, h2⟩ := Vals.get (i := i) (x := x) t (by simpa using e)
  exact ⟨u, by simpa using h1, h2⟩
theorem Vals.set {x : V} {u : Value} (r : RelV x u) : ∀ {xs : List V} {us : List Value} (i : Nat), Vals xs us -> Vals (xs.set i x) (us.set i u)
 | _, _, _, .nil => .nil
 | _, _, 0, .cons _ t => .cons r t
 | _, _, i + 1, .cons q t => .cons q (Vals.set r i t)
theorem Vals.append : ∀ {xs ys : List V} {us ws : List Value}, Vals xs us -> Vals ys ws -> Vals (xs ++ ys) (us ++ ws)
 | _, _, _, _, .nil, s => s
 | _, _, _, _, .cons r t, s => .cons r (Vals.append t s)
theorem Vals.take : ∀ {xs : List V} {us : List Value} (n : Nat), Vals xs us -> Vals (xs.take n) (us.take n)
 | _, _, 0, _ => .nil
 | _, _, _ + 1, .nil => .nil
 | _, _, n + 1, .cons r t => .cons r (Vals.take n t)
theorem Vals.drop : ∀ {xs : List V} {us : List Value} (n : Nat), Vals xs us -> Vals (xs.drop n) (us.drop n)
 | _, _, 0, r => r
 | _, _, _ + 1, .nil => .nil
 | _, _, n + 1, .cons _ t => Vals.drop n t
def RelO : Option V -> Option Value -> Prop
 | some v, some u => RelV v u
 | none, none => True
 | _, _ => False
def KV {κ : Type} : List (κ × V) -> List (κ × Value) -> Prop := Paired fun (p : κ × V) (q : κ × Value) => p.1 = q.1 /\ RelV p.2 q.2
def kV : Key -> V
 | .inl i => .int i
 | .inr x => .str x
inductive HO where
  | lst (xs : List V)
  | tup (xs : List V)
  | dK (kvs : List (Key × V)) | dT (kvs : List (List Key × V))
  | set (S : Int -> Bool) (n : Nat)
  | ins (C dx : Addr) (fs : List (Str × V))
  | own (x : Addr)
  | xd (fs : List (Str × V))
  | met (f x : Addr)
  | rng (lo hi : Int)
  | frz (o : Obj) (u : HO)
  | tbl (ps : Array Value)
  | ext (φ : Heap -> Prop)
abbrev Hp := Addr -> Option HO
def upd (H : Hp) (a : Addr) (o : HO) : Hp := fun b => if b = a then some o else H b
theorem yn {H : Hp} {a : Addr} {o : HO} : upd H a o a = some o := by unfold upd; rw [if_pos rfl]
theorem yy {H : Hp} {a b : Addr} {o : HO} (h : b ≠ a) : upd H a o b = H b := by unfold upd; rw [if_neg h]
theorem upd_upd {H : Hp} {a : Addr} {o u : HO} : upd (upd H a o) a u = upd H a u := by
 funext b; unfold upd; split <;> rfl
theorem xU {H : Hp} {a b : Addr} {o u : HO} (h : H a = some o) (h' : H b = some u) (d : o ≠ u) : a ≠ b := by
 intro e; subst e; rw [h] at h'; exact d (Option.some.inj h')
theorem yr {H : Hp} {a b : Addr} {o : HO} (h : H a = some o) (h' : H b = none) : a ≠ b := by
 intro e; subst e; rw [h] at h'; cases h'
section
variable (P : Program) (w : World)
def ObjOk (H : Hp) (h : Heap) (a : Addr) : HO -> Prop
 | .lst xs => xs.length <= sizeLine /\ ∃ (its : List Value) (n : Nat), Vals xs its /\ h.get? a = some { cls := .type "list", data := .seq its.toArray n }
 | .tup xs => xs.length <= sizeLine /\ ∃ its : List Value, Vals xs its /\ IsTup h a its.toArray
 | .dK kvs => kvs.length <= sizeLine /\ (a == sysModules) = false /\ ∃ vs, KV kvs vs /\ h.DictOf (mixKind P w) a vs
 | .dT kvs => kvs.length <= sizeLine /\ (a == sysModules) = false /\ ∃ xs : List (List Key × Addr × Value),
   Paired (fun (p : List Key × V) (q : List Key × Addr × Value) => p.1 = q.1 /\ H q.2.1 = some (.tup (p.1.map kV)) /\ RelV p.2 q.2.2) kvs xs /\
   ∃ o es ep, h.get? a = some o /\ o.ExactDict /\ o.data = .dict es ep /\ es.toList = xs.map (entryOfKey (tupleKind (mixKind P w))) /\ (xs.map (·.1)).Nodup
 | .set S n => h.SetOf (intKind P w) a S n
 | .ins C dx fs => H dx = some (.own a) /\ fs.length <= 1000 /\ dx ≠ a /\ h.get? a = some (yG C dx) /\
   ∃ mA, h.Ns1 dx mA /\ (∀ f, RelO (fs.lookup f) (mA f)) /\ PySem.Within mA (fs.map (·.1))
 | .own _ => ∃ o, h.get? a = some o
 | .xd fs => ∃ mA, h.Ns1 a mA /\ ∀ f, RelO (fs.lookup f) (mA f)
 | .rng lo hi => ∃ t u v, h.get? a = some { cls := .type "range", data := .fields #[.int lo t, .int hi u, .int 1 v] }
 | .frz o u => h.get? a = some o /\ ObjOk H h a u
 | .tbl ps => h.get? a = some { cls := .none, data := .fields ps }
 | .met f x => h.get? a = some (PySem.W.methodObj (.ref f) (.ref x))
 | .ext φ => φ h /\ (∃ o, h.get? a = some o) /\ ∀ h1 h2 : Heap, φ h1 -> (∀ o, h1.get? a = some o -> h2.get? a = some o) -> φ h2
def HOk (H : Hp) (h : Heap) : Prop := ∀ a o, H a = some o -> ObjOk P w H h a o
end
section
variable {P : Program} {w : World} {H H' : Hp} {h h' : Heap} {a : Addr} {o : HO}
theorem ObjOk.lt (x : ObjOk P w H h a o) : a < h.objs.size := by
 cases o with
 | lst xs => obtain ⟨_, _, _, _, e⟩ := x; exact Heap.lt_size e
 | tup xs => obtain ⟨_, _, _, p⟩ := x; exact p.lt
 | dK kvs => obtain ⟨_, _, _, _, o, _, _, e, _⟩ := x; exact Heap.lt_size e
 | dT kvs => obtain ⟨_, _, _, _, o, _, _, e, _⟩ := x; exact Heap.lt_size e
 | set S n => obtain ⟨o, _, _, _, e, _⟩ := x; exact Heap.lt_size e
 | ins C dx fs => obtain ⟨_, _, _, e, _⟩ := x; exact Heap.lt_size e
 | own y => obtain ⟨_, e⟩ := x; exact Heap.lt_size e
 | xd fs => obtain ⟨_, ⟨_, _, _, e, _⟩, _⟩ := x; exact Heap.lt_size e
 | rng lo hi => obtain ⟨_, _, _, e⟩ := x; exact Heap.lt_size e
 | frz ob u => obtain ⟨e, _⟩ := x; exact Heap.lt_size e
 | tbl ps => exact Heap.lt_size (show h.get? a = some _ from x)
 | met f y => exact Heap.lt_size (show h.get? a = some _ from x)
 | ext φ => obtain ⟨_, ⟨_, e⟩, _⟩ := x; exact Heap.lt_size e
theorem Paired.mapP {α β : Type} {F G : α -> β -> Prop} : ∀ {l₁ : List α} {l₂ : List β}, Paired F l₁ l₂ -> (∀ a b, F a b -> G a b) -> Paired G l₁ l₂
 | _, _, .nil, _ => .nil
 | _, _, .cons r t, f => .cons (f _ _ r) (Paired.mapP t f)
theorem ObjOk.stay (x : ObjOk P w H h a o) (k : ∀ b u, (b = a \/ H b = some (.own a)) -> h.get? b = some u -> h'.get? b = some u)
  (ho : ∀ b, H b = some (.own a) -> H' b = some (.own a)) (ht : ∀ b xs, H b = some (.tup xs) -> H' b = some (.tup xs)) : ObjOk P w H' h' a o := by
 induction o with
 | lst xs => obtain ⟨z, its, n, r, e⟩ := x; exact ⟨z, its, n, r, k _ _ (.inl rfl) e⟩
 | tup xs => obtain ⟨z, its, r, ob, e, c⟩ := x; exact ⟨z, its, r, ob, k _ _ (.inl rfl) e, c⟩
 | dK kvs => obtain ⟨z, y, vs, r, ob, es, ep, e, c⟩ := x; exact ⟨z, y, vs, r, ob, es, ep, k _ _ (.inl rfl) e, c⟩
 | dT kvs =>
  obtain ⟨z, y, xs, r, ob, es, ep, e, c⟩ := x
  exact ⟨z, y, xs, Paired.mapP r fun p q z => ⟨z.1, ht _ _ z.2.1, z.2.2⟩, ob, es, ep, k _ _ (.inl rfl) e, c⟩
 | set S n => obtain ⟨ob, es, ep, t, e, c⟩ := x; exact ⟨ob, es, ep, t, k _ _ (.inl rfl) e, c⟩
 | ins C dx fs =>
  obtain ⟨d, z, ne, e, mA, ⟨od, es, ep, e2, c⟩, r⟩ := x
  exact ⟨ho _ d, z, ne, k _ _ (.inl rfl) e, mA, ⟨od, es, ep, k _ _ (.inr d) e2, c⟩, r⟩
 | own y => obtain ⟨ob, e⟩ := x; exact ⟨ob, k _ _ (.inl rfl) e⟩
 | xd fs => obtain ⟨mA, ⟨od, es, ep, e, c⟩, r⟩ := x; exact ⟨mA, ⟨od, es, ep, k _ _ (.inl rfl) e, c⟩, r⟩
 | rng lo hi => obtain ⟨t, u, v, e⟩ := x; exact ⟨t, u, v, k _ _ (.inl rfl) e⟩
 | frz ob u ih => obtain ⟨e, q⟩ := x; exact ⟨k _ _ (.inl rfl) e, ih q⟩
 | tbl ps =>
  have e : h.get? a = some { cls := .none, data := .fields ps } := x
  show h'.get? a = some { cls := .none, data := .fields ps }
  exact k a _ (.inl rfl) e
 | met f y =>
  have e : h.get? a = some (PySem.W.methodObj (.ref f) (.ref y)) := x
  show h'.get? a = some (PySem.W.methodObj (.ref f) (.ref y))
  exact k a _ (.inl rfl) e
 | ext φ => obtain ⟨p, ⟨o, e⟩, st⟩ := x; exact ⟨st _ _ p fun o q => k _ _ (.inl rfl) q, ⟨o, k _ _ (.inl rfl) e⟩, st⟩
theorem HOk.lt (x : HOk P w H h) (e : H a = some o) : a < h.objs.size := (x a o e).lt
theorem HOk.fresh (x : HOk P w H h) (e : h.objs.size <= a) : H a = none := by
 cases q : H a with
 | none => rfl
 | some u => exact absurd (zW (x.lt q) e) (zk _)
theorem HOk.kept (x : HOk P w H h) (k : ∀ b u, h.get? b = some u -> h'.get? b = some u) : HOk P w H h' := fun a o e =>
 (x a o e).stay (fun b u _ q => k b u q) (fun _ q => q) fun _ _ q => q
theorem HOk.laid (x : HOk P w H h) (k : ∀ b u, h.get? b = some u -> h'.get? b = some u) (hp : h.objs.size <= a) (new : ObjOk P w (upd H a o) h' a o) : HOk P w (upd H a o) h' := fun b u e => by
 have hn := x.fresh hp
 by_cases hb : b = a
 ·subst hb; rw [yn] at e; cases e; exact new
 ·rw [yy hb] at e
  exact (x b u e).stay (fun c v _ q => k c v q) (fun c q => by rw [yy (yr q hn)]; exact q) fun c xs q => by rw [yy (yr q hn)]; exact q
end
def Rd (H : Hp) (a : Addr) (u : HO) : Prop := H a = some u \/ ∃ o, H a = some (.frz o u)
theorem Rd.ok {P : Program} {w : World} {H : Hp} {h : Heap} {a : Addr} {u : HO} (r : Rd H a u) (x : HOk P w H h) : ObjOk P w H h a u := by
 rcases r with r | ⟨o, r⟩
 ·exact x a u r
 ·obtain ⟨_, q⟩ := x a _ r
  exact q
def Mut : Option HO -> Prop
 | some (.lst _) => True
 | some (.dK _) => True
 | some (.dT _) => True
 | some (.set _ _) => True
 | some (.ins _ _ _) => True
 | some (.ext _) => True
 | _ => False
section
variable {P : Program} {w : World} {H : Hp} {h h' : Heap} {x e : Addr} {o' : HO}
theorem HOk.write (ok : HOk P w H h) (mu : Mut (H x)) (he : e = x \/ H e = some (.own x)) (k : ∀ b u, b ≠ e -> h.get? b = some u -> h'.get? b = some u) (heo : ∃ u, h'.get? e = some u)
  (new : ObjOk P w (upd H x o') h' x o') : HOk P w (upd H x o') h' := fun b u q => by
 have nown : ∀ c y, H c = some (.own y) -> c ≠ x := fun c y r z => by subst z; rw [r] at mu; exact mu
 have ntup : ∀ c xs, H c = some (.tup xs) -> c ≠ x := fun c xs r z => by subst z; rw [r] at mu; exact mu
 by_cases hb : b = x
 ·subst hb; rw [yn] at q; cases q; exact new
 ·rw [yy hb] at q
  by_cases hbe : b = e
  ·have q' : H b = some (.own x) := by
    rcases he with z | z
    ·exact absurd (hbe.trans z) hb
    ·rw [hbe]; exact z
   rw [q] at q'; cases q'
   obtain ⟨v, hv⟩ := heo
   exact ⟨v, by rw [hbe]; exact hv⟩
  ·refine (ok b u q).stay (fun c v hc r => k c v ?_ r) (fun c r => by rw [yy (nown c b r)]; exact r) fun c xs r => by rw [yy (ntup c xs r)]; exact r
   rcases hc with rfl | hc
   ·exact hbe
   ·rintro rfl
    rcases he with z | z
    ·exact nown c b hc z
    ·rw [hc] at z; cases z; exact hb rfl
end
structure Un (fs ex : List Addr) (H H' : Hp) (h h' : Heap) : Prop where
 keep : ∀ b o, h.get? b = some o -> H b = none -> b ∉ fs -> b ∉ ex -> h'.get? b = some o
 slot : ∀ b o, h.get? b = some o -> H b = none -> b ∈ fs -> b ∉ ex -> ∃ sl, h'.get? b = some { o with slots := sl }
 free : ∀ b o, h.get? b = some o -> H b = none -> b ∉ ex -> H' b = none
 there : ∀ b o, h.get? b = some o -> b ∉ ex -> ∃ o', h'.get? b = some o'
 tups : ∀ b xs, H b = some (.tup xs) -> H' b = some (.tup xs)
 frzs : ∀ b o u, H b = some (.frz o u) -> H' b = some (.frz o u)
 tbls : ∀ b ps, H b = some (.tbl ps) -> ∃ more, H' b = some (.tbl (ps ++ more))
section
variable {fs fs' ex ex' : List Addr} {H H1 H2 : Hp} {h h1 h2 h' : Heap} {a x e : Addr} {o : HO}
theorem Un.any (u : Un fs ex H H1 h h1) {b : Addr} {ob : Obj} (q : h.get? b = some ob) (n : H b = none) (hx : b ∉ ex) : ∃ sl, h1.get? b = some { ob with slots := sl } := by
 by_cases hb : b ∈ fs
 ·exact u.slot b ob q n hb hx
 ·exact ⟨ob.slots, u.keep b ob q n hb hx⟩
theorem Un.kept (k : ∀ b u, h.get? b = some u -> h'.get? b = some u) : Un fs ex H H h h' :=
 ⟨fun b ob q _ _ _ => k b ob q, fun b ob q _ _ _ => ⟨ob.slots, k b ob q⟩, fun _ _ _ n _ => n, fun b ob q _ => ⟨ob, k b ob q⟩, fun _ _ q => q, fun _ _ _ q => q, fun _ ps q => ⟨#[], by rw [q]; simp⟩⟩
theorem Un.refl : Un fs ex H H h h := Un.kept fun _ _ q => q
theorem Un.laid (k : ∀ b u, h.get? b = some u -> h'.get? b = some u) (hp : h.objs.size <= a) (hn : H a = none) : Un fs ex H (upd H a o) h h' where
 keep := fun b u q _ _ _ => k b u q
 slot := fun b u q _ _ _ => ⟨u.slots, k b u q⟩
 free := fun b u q n _ => by rw [yy (zV (zW (Heap.lt_size q) hp))]; exact n
 there := fun b u q _ => ⟨u, k b u q⟩
 tups := fun b xs q => by rw [yy (yr q hn)]; exact q
 frzs := fun b u xs q => by rw [yy (yr q hn)]; exact q
 tbls := fun b ps q => ⟨#[], by rw [yy (yr q hn), q]; simp⟩
theorem Un.write (mu : Mut (H x)) (he : e = x \/ H e = some (.own x)) (k : ∀ b u, b ≠ e -> h.get? b = some u -> h'.get? b = some u) (heo : ∃ u, h'.get? e = some u) : Un fs ex H (upd H x o) h h' := by
 have hx : ∀ b, H b = none -> b ≠ x := fun b n z => by subst z; rw [n] at mu; exact mu
 have hb : ∀ b, H b = none -> b ≠ e := fun b n z => by
  subst z
  rcases he with r | r
  ·exact hx b n r
  ·rw [n] at r; cases r
 have hm : ∀ b u, H b = some u -> ¬ Mut (some u) -> b ≠ x := fun b u q nm z => by subst z; rw [q] at mu; exact nm mu
 refine ⟨fun b u q n _ _ => k b u (hb b n) q, fun b u q n _ _ => ⟨u.slots, k b u (hb b n) q⟩, fun b u q n _ => by rw [yy (hx b n)]; exact n, fun b u q _ => ?_,
  fun b xs q => by rw [yy (hm b _ q fun z => z)]; exact q, fun b u xs q => by rw [yy (hm b _ q fun z => z)]; exact q, fun b ps q => ⟨#[], by rw [yy (hm b _ q fun z => z), q]; simp⟩⟩
 by_cases hbe : b = e
 ·subst hbe; exact heo
 ·exact ⟨u, k b u hbe q⟩
end
def trk (h : Heap) (H : Hp) : List Addr := (List.range h.objs.size).filter fun a => (H a).isSome
def hidT (h : Heap) (H : Hp) : Heap := PySem.W.hideAll h (trk h H)
theorem hidT_size (h : Heap) (H : Hp) : (hidT h H).objs.size = h.objs.size := PySem.W.hideAll_size _ _
theorem hidT_get {h : Heap} {H : Hp} {b : Addr} {o : Obj} (e : h.get? b = some o) (n : H b = none) : (hidT h H).get? b = some o :=
 PySem.W.hideAll_get _ e fun hm => by
  have q : (H b).isSome = true := (z8.mp hm).2
  rw [n] at q; simp at q
theorem of_hidT {h : Heap} {H : Hp} {b : Addr} {o : Obj} (e : (hidT h H).get? b = some o) : h.get? b = some o /\ H b = none := by
 have e' : h.get? b = some o := PySem.W.of_hideAll (trk h H) e
 refine ⟨e', ?_⟩
 cases q : H b with
 | none => rfl
 | some x =>
  have hm : b ∈ trk h H := z8.mpr ⟨zp.mpr (Heap.lt_size e'), by simp [q]⟩
  have z : (hidT h H).get? b = none := PySem.W.hideAll_none (trk h H) hm
  rw [z] at e; cases e
def allNews (g h : Heap) (L : Addr) : List (Addr × Obj) := (List.range h.objs.size).filterMap fun a => if a = L \/ (g.get? a).isSome = true then none else (h.get? a).map fun o => (a, o)
theorem mem_allNews {g h : Heap} {L a : Addr} {o : Obj} (h1 : a ≠ L) (h2 : g.get? a = none) (h3 : h.get? a = some o) : (a, o) ∈ allNews g h L :=
 yT.mpr ⟨a, zp.mpr (Heap.lt_size h3), by simp [h1, h2, h3]⟩
theorem of_mem_allNews {g h : Heap} {L : Addr} {p : Addr × Obj} (hp : p ∈ allNews g h L) : p.1 ≠ L /\ g.get? p.1 = none /\ h.get? p.1 = some p.2 := by
 obtain ⟨b, _, e⟩ := yT.mp hp
 split at e
 ·cases e
 ·rename_i hn
  cases q : h.get? b with
  | none => rw [q] at e; simp at e
  | some u =>
   rw [q] at e
   simp only [yA, Option.some.injEq] at e
   subst e
   refine ⟨fun z => hn (.inl z), ?_, q⟩
   show g.get? b = none
   cases r : g.get? b with
   | none => rfl
   | some v => exact (hn (.inr (by simp [r]))).elim
def rest (g h : Heap) (L d : Addr) : List (Addr × Obj) := (allNews g h L).filter fun p => decide (p.1 ≠ d)
theorem rest_ne {g h : Heap} {L d : Addr} : ∀ p ∈ rest g h L d, p.1 ≠ d := fun p hp => of_decide_eq_true (z8.mp hp).2
theorem mem_rest {g h : Heap} {L d a : Addr} {o : Obj} (h1 : a ≠ L) (h2 : g.get? a = none) (h3 : h.get? a = some o) (h4 : a ≠ d) : (a, o) ∈ rest g h L d :=
 z8.mpr ⟨mem_allNews h1 h2 h3, decide_eq_true h4⟩
theorem news_all {g h : Heap} {L : Addr} : News g L h (allNews g h L) := fun p hp => let ⟨a, b, c⟩ := of_mem_allNews hp; ⟨c, a, b⟩
theorem news_at {g h : Heap} {L d : Addr} {o : Obj} (h1 : d ≠ L) (h2 : g.get? d = none) (h3 : h.get? d = some o) : News g L h ((d, o) :: rest g h L d) := fun p hp => by
 rcases zR.mp hp with rfl | hp
 ·exact ⟨h3, h1, h2⟩
 ·exact news_all p (z8.mp hp).1
theorem kept_of_news {g h h' : Heap} {L d : Addr} {m : Str -> Option Value} (k : ∀ b o, g.get? b = some o -> h.get? b = some o) (F : Fr g L h' m) (N : News g L h' (rest g h L d)) :
  ∀ b o, b ≠ L -> b ≠ d -> h.get? b = some o -> h'.get? b = some o := fun b o h1 h2 e => by
 cases q : g.get? b with
 | some u =>
  have := k b u q
  rw [e] at this; cases this
  exact F.keep b _ q
 | none => exact (N (b, o) (mem_rest h1 q e h2)).1
end L2
namespace L2
open PySem PySem.Spec PyProof.Rows
structure Mod (K : PySem.W.Frag) (mg : Str -> Option Value) (base : Heap) : Prop where
 kin : K.In base
 glob : base.Ns mainGlobals mg
 blt : ∃ mb, base.Ns builtinsNs mb /\ ∀ x : Str, x ≠ "__name__" -> mb x = bootBuiltins x
 nolimit : base.NoLimit
structure Cx where
 prog : Program
 w : World
 K : PySem.W.Frag
 mg : Str -> Option Value
 base : Heap
 A : Around
 N : List Str
 s₀ : Shared
 H₀ : Hp
 env : Env
 outer : List Env
 stack : List Env
 ex : List Addr
 fn : Str -> Bool
 calm : Bool
 pn : List (Addr × Obj)
 xe : Value -> Shared -> Prop
def frs (l : List Env) : List Addr := l.filterMap (·.frame)
abbrev Cx.fs (X : Cx) : List Addr := frs X.outer
def Vis (sc : Scope) (x : Str) : Prop := sc.names.lookup x = some .local \/ sc.names.lookup x = some .cell \/ sc.names.lookup x = some .free
def Loc (sc : Scope) (x : Str) : Prop := sc.names.lookup x = some .local \/ sc.names.lookup x = some .cell
def Look (env : Env) (h : Heap) (m : Str -> Option Value) (x : Str) (u : Value) : Prop :=
 (env.kindOf x = some .local /\ m x = some u) \/ ((env.kindOf x = some .cell \/ env.kindOf x = some .free) /\ ∃ c, env.cells.lookup x = some c /\ h.IsCell c (some u))
structure Cx.Ok (X : Cx) : Prop where
 mod : Mod X.K X.mg X.base
 kind : X.env.scope.kind = .function
 glob : X.env.globals = mainGlobals
 blt : X.env.builtins = builtinsNs
 above : X.s₀.heap.objs.size <= X.env.locals
 inj : ∀ x y c, X.env.cells.lookup x = some c -> X.env.cells.lookup y = some c -> x = y
 has : ∀ x, (X.env.kindOf x = some .cell \/ X.env.kindOf x = some .free) -> ∃ c, X.env.cells.lookup x = some c
 cab : ∀ x c, X.fn x = true -> X.env.cells.lookup x = some c -> X.s₀.heap.objs.size <= c
 hd : X.calm = true -> X.A.handled = none
 frames : X.A.frames = some X.stack
 stk : X.stack = X.outer \/ (X.stack = X.env :: X.outer /\ X.env.frame = some X.env.locals)
 exf : ∀ b ∈ X.ex, b ≠ X.env.locals /\ ∀ x c, X.env.cells.lookup x = some c -> c ≠ b
 bs : ∀ b o, X.base.get? b = some o -> X.s₀.heap.get? b = some o /\ X.H₀ b = none
 bsz : X.base.objs.size <= X.s₀.heap.objs.size
 noex : ∀ b o, X.base.get? b = some o -> b ∉ X.ex
 exfs : ∀ b ∈ X.ex, b ∉ X.fs
 funs : X.s₀.heap.FunFrames X.base X.outer
 frf : ∀ b ∈ X.fs, X.H₀ b = none
structure Inv (X : Cx) (pins : List (Addr × Obj)) (σ : List (Option V)) (H : Hp) (s : Shared) : Prop where
 ok : X.Ok
 os : s.os = X.s₀.os
 bare : AllBare s.gens
 base : Un X.fs X.ex X.H₀ H X.s₀.heap s.heap
 loc : ∃ m, s.heap.Ns X.env.locals m /\ ∀ (i : Nat) (x : Str) (v : V), X.N[i]? = some x -> σ[i]? = some (some v) -> Vis X.env.scope x -> ∃ u, RelV v u /\ Look X.env s.heap m x u
 cell : ∀ x c, X.env.cells.lookup x = some c -> ∃ v, s.heap.IsCell c v
 free : H X.env.locals = none
 freeC : ∀ x c, X.env.cells.lookup x = some c -> H c = none
 pin : ∀ p ∈ X.pn ++ pins, s.heap.get? p.1 = some p.2 /\ H p.1 = none /\ p.1 ≠ X.env.locals /\ p.1 ∉ X.fs /\ ∀ v, p.2.data ≠ .cell v
 hok : HOk X.prog X.w H s.heap
 len : σ.length = X.N.length
section
variable {X : Cx} {pins : List (Addr × Obj)} {σ : List (Option V)} {H H' : Hp} {s : Shared} {h' : Heap}
theorem Cx.Ok.nofr (ok : X.Ok) {b : Addr} {o : Obj} (e : X.base.get? b = some o) : b ∉ X.fs := fun hb => by
 have := (ok.funs.mem hb).1
 rw [e] at this; cases this
theorem Inv.bs (I : Inv X pins σ H s) : ∀ b o, X.base.get? b = some o -> s.heap.get? b = some o /\ H b = none := fun b o e =>
 ⟨I.base.keep b o (I.ok.bs b o e).1 (I.ok.bs b o e).2 (I.ok.nofr e) (I.ok.noex b o e), I.base.free b o (I.ok.bs b o e).1 (I.ok.bs b o e).2 (I.ok.noex b o e)⟩
theorem Inv.bk (I : Inv X pins σ H s) : ∀ b o, X.base.get? b = some o -> s.heap.get? b = some o := fun b o e => (I.bs b o e).1
theorem Inv.mod (I : Inv X pins σ H s) : Mod X.K X.mg X.base := I.ok.mod
theorem Inv.kIn (I : Inv X pins σ H s) : X.K.In s.heap := I.ok.mod.kin.keeps I.bk
theorem Inv.fr (I : Inv X pins σ H s) : ∃ m, Fr X.base X.env.locals s.heap m :=
 let ⟨m, hn, _⟩ := I.loc
 ⟨m, hn, I.bk, ze I.ok.bsz I.ok.above⟩
theorem Inv.lt (I : Inv X pins σ H s) : X.env.locals < s.heap.objs.size := let ⟨_, hn, _⟩ := I.loc; hn.lt
theorem Inv.sz (I : Inv X pins σ H s) : X.s₀.heap.objs.size <= s.heap.objs.size := ze I.ok.above (yZ I.lt)
theorem Inv.nofs (I : Inv X pins σ H s) {a : Addr} (h : s.heap.objs.size <= a) : a ∉ X.fs := fun hb => by
 obtain ⟨_, o, ho, _⟩ := I.ok.funs.mem hb
 exact absurd (zW (Heap.lt_size ho) (ze I.sz h)) (zk _)
theorem Inv.cne (I : Inv X pins σ H s) : ∀ x c, X.env.cells.lookup x = some c -> c ≠ X.env.locals := fun x c e z => by
 obtain ⟨v, o, ho, hd⟩ := I.cell x c e
 obtain ⟨m, ⟨o', es, ep, ho', hd', _⟩, _⟩ := I.loc
 rw [z, ho'] at ho; cases ho; rw [hd'] at hd; cases hd
theorem Inv.funs (I : Inv X pins σ H s) : s.heap.FunFrames X.base X.outer := by
 have all : ∀ (l : List Env), (∀ b ∈ frs l, b ∈ X.fs) -> X.s₀.heap.FunFrames X.base l -> s.heap.FunFrames X.base l := by
  intro l
  induction l with
  | nil => intro _ _; trivial
  | cons env r ih =>
   intro hs hl
   obtain ⟨hk, ⟨L, o, hf, hn, ho, hd⟩, hr⟩ := hl
   have hL : L ∈ X.fs := hs L (by unfold frs; rw [yP, hf]; exact yU)
   obtain ⟨sl, e⟩ := I.base.slot L o ho (I.ok.frf L hL) hL fun z => I.ok.exfs L z hL
   exact ⟨hk, ⟨L, _, hf, hn, e, hd⟩, ih (fun b hb => hs b (by unfold frs; rw [yP, hf]; exact zh _ hb)) hr⟩
 exact all X.outer (fun _ hb => hb) I.ok.funs
theorem Inv.stack (I : Inv X pins σ H s) : s.heap.FunFrames X.base X.stack := by
 rcases I.ok.stk with e | ⟨e, hf⟩
 ·rw [e]; exact I.funs
 ·rw [e]
  obtain ⟨m, hn, _⟩ := I.loc
  refine .cons (by rw [I.ok.kind]; decide) hf hn ?_ I.funs
  exact Heap.get?_none_of_le (ze I.ok.bsz I.ok.above)
theorem Inv.stkSub (I : Inv X pins σ H s) : ∀ b ∈ frs X.stack, b ∈ X.env.locals :: X.fs := fun b hb => by
 rcases I.ok.stk with e | ⟨e, hf⟩
 ·rw [e] at hb; exact zh _ hb
 ·rw [e] at hb
  unfold frs at hb
  rw [yP, hf] at hb
  exact hb
theorem Inv.stkFree (I : Inv X pins σ H s) : ∀ b ∈ frs X.stack, H b = none := fun b hb => by
 rcases zR.mp (I.stkSub b hb) with e | hb
 ·rw [e]; exact I.free
 ·obtain ⟨_, o, ho, _⟩ := I.ok.funs.mem hb
  exact I.base.free b o ho (I.ok.frf b hb) fun z => I.ok.exfs b z hb
theorem Inv.step {g' : Array GenState} {t' : Nat} {d' : Drawn} {ch : List Addr} (I : Inv X pins σ H s)
  (hch : ∀ b ∈ ch, (b ∈ X.ex \/ X.s₀.heap.objs.size <= b) /\ b ≠ X.env.locals /\ (∀ x c, X.env.cells.lookup x = some c -> c ≠ b) /\ ∀ p ∈ X.pn ++ pins, p.1 ≠ b)
  (keep : ∀ b o, b ≠ X.env.locals -> b ∉ X.fs -> b ∉ ch -> s.heap.get? b = some o -> H b = none -> h'.get? b = some o)
  (slot : ∀ b o, b ≠ X.env.locals -> b ∈ X.fs -> b ∉ ch -> s.heap.get? b = some o -> H b = none -> ∃ sl, h'.get? b = some { o with slots := sl }) (free : ∀ b o, b ∉ ch -> s.heap.get? b = some o -> H b = none -> H' b = none)
  (there : ∀ b o, b ∉ ch -> s.heap.get? b = some o -> ∃ o', h'.get? b = some o')
  (tups : ∀ b xs, H b = some (.tup xs) -> H' b = some (.tup xs)) (frzs : ∀ b o u, H b = some (.frz o u) -> H' b = some (.frz o u)) (tbls : ∀ b ps, H b = some (.tbl ps) -> ∃ more, H' b = some (.tbl (ps ++ more)))
  (ns : ∀ m, s.heap.Ns X.env.locals m -> h'.Ns X.env.locals m) (hok : HOk X.prog X.w H' h') (hg : AllBare g') :
  Inv X pins σ H' { s with heap := h', gens := g', drawn := d', toks := t' } := by
 have neL : ∀ b o, X.s₀.heap.get? b = some o -> b ≠ X.env.locals := fun b o e => zV (zW (Heap.lt_size e) I.ok.above)
 have neC : ∀ b o, X.s₀.heap.get? b = some o -> b ∉ X.ex -> b ∉ ch := fun b o e hx hb => by
  rcases (hch b hb).1 with z | z
  ·exact hx z
  ·exact absurd (zW (Heap.lt_size e) z) (zk _)
 have cellK : ∀ x c, X.env.cells.lookup x = some c -> ∀ v, s.heap.IsCell c v -> h'.IsCell c v := fun x c e v ⟨o, ho, hd⟩ => by
  have nch : c ∉ ch := fun z => (hch c z).2.2.1 x c e rfl
  by_cases hc : c ∈ X.fs
  ·obtain ⟨sl, q⟩ := slot c o (I.cne x c e) hc nch ho (I.freeC x c e)
   exact ⟨_, q, hd⟩
  ·exact ⟨o, keep c o (I.cne x c e) hc nch ho (I.freeC x c e), hd⟩
 refine ⟨I.ok, I.os, hg, ⟨fun b o e n hb hx => ?_, fun b o e n hb hx => ?_, fun b o e n hx => ?_, fun b o e hx => ?_, fun b xs e => tups b xs (I.base.tups b xs e), fun b o xs e => frzs b o xs (I.base.frzs b o xs e), fun b ps e => ?_⟩, ?_, fun x c e => ?_, ?_, fun x c e => ?_, fun p hp => ?_, hok, I.len⟩
 ·exact keep b o (neL b o e) hb (neC b o e hx) (I.base.keep b o e n hb hx) (I.base.free b o e n hx)
 ·obtain ⟨sl, e1⟩ := I.base.slot b o e n hb hx
  obtain ⟨sl', e2⟩ := slot b _ (neL b o e) hb (neC b o e hx) e1 (I.base.free b o e n hx)
  exact ⟨sl', e2⟩
 ·obtain ⟨o', e1⟩ := I.base.there b o e hx
  exact free b o' (neC b o e hx) e1 (I.base.free b o e n hx)
 ·obtain ⟨o', e1⟩ := I.base.there b o e hx
  exact there b o' (neC b o e hx) e1
 ·obtain ⟨m1, e1⟩ := I.base.tbls b ps e
  obtain ⟨m2, e2⟩ := tbls b _ e1
  exact ⟨m1 ++ m2, by rw [e2, Array.append_assoc]⟩
 ·obtain ⟨m, hn, hl⟩ := I.loc
  refine ⟨m, ns m hn, fun i x v e1 e2 e3 => ?_⟩
  obtain ⟨u, r, l⟩ := hl i x v e1 e2 e3
  refine ⟨u, r, ?_⟩
  rcases l with l | ⟨k, c, e, z⟩
  ·exact .inl l
  ·exact .inr ⟨k, c, e, cellK x c e _ z⟩
 ·obtain ⟨v, z⟩ := I.cell x c e
  exact ⟨v, cellK x c e v z⟩
 ·obtain ⟨m, ⟨o, _, _, ho, _⟩, _⟩ := I.loc
  exact free _ o (fun z => (hch _ z).2.1 rfl) ho I.free
 ·obtain ⟨v, o, ho, hd⟩ := I.cell x c e
  exact free c o (fun z => (hch c z).2.2.1 x c e rfl) ho (I.freeC x c e)
 ·obtain ⟨e, n, ne, nf, d⟩ := I.pin p hp
  have nch : p.1 ∉ ch := fun z => (hch p.1 z).2.2.2 p hp rfl
  exact ⟨keep p.1 p.2 ne nf nch e n, free p.1 p.2 nch e n, ne, nf, d⟩
theorem Inv.un {t' : Nat} (I : Inv X pins σ H s) (u : Un X.fs [] H H' s.heap h') (hok : HOk X.prog X.w H' h') : Inv X pins σ H' { s with heap := h', toks := t' } := by
 obtain ⟨m, ⟨o, es, ep, ho, r⟩, _⟩ := id I.loc
 obtain ⟨sl, hL⟩ := u.any ho I.free (by simp)
 exact I.step (g' := s.gens) (d' := s.drawn) (ch := []) (fun _ z => nomatch z) (fun b o _ hb _ e n => u.keep b o e n hb (by simp)) (fun b o _ hb _ e n => u.slot b o e n hb (by simp)) (fun b o _ e n => u.free b o e n (by simp)) (fun b o _ e => u.there b o e (by simp)) u.tups u.frzs u.tbls (fun m' hm => by
  obtain ⟨o', es', ep', ho', r'⟩ := hm
  rw [ho] at ho'; cases ho'
  exact ⟨_, es', ep', hL, r'⟩) hok I.bare
theorem Inv.call {g' : Array GenState} {t' : Nat} {d' : Drawn} {ch : List Addr} (I : Inv X pins σ H s) (u : Un (frs X.stack) ch H H' s.heap h') (hok : HOk X.prog X.w H' h') (hg : AllBare g')
  (hch : ∀ b ∈ ch, (b ∈ X.ex \/ X.s₀.heap.objs.size <= b) /\ b ≠ X.env.locals /\ (∀ x c, X.env.cells.lookup x = some c -> c ≠ b) /\ ∀ p ∈ X.pn ++ pins, p.1 ≠ b) :
  Inv X pins σ H' { s with heap := h', gens := g', drawn := d', toks := t' } := by
 obtain ⟨m, ⟨o, es, ep, ho, r⟩, _⟩ := id I.loc
 obtain ⟨sl, hL⟩ := u.any ho I.free fun z => (hch _ z).2.1 rfl
 exact I.step (ch := ch) hch (fun b o hL hb hc e n => u.keep b o e n (fun z => (zR.mp (I.stkSub b z)).elim hL hb) hc) (fun b o _ _ hc e n => u.any e n hc) (fun b o hc e n => u.free b o e n hc) (fun b o hc e => u.there b o e hc) u.tups u.frzs u.tbls (fun m' hm => by
  obtain ⟨o', es', ep', ho', r'⟩ := hm
  rw [ho] at ho'; cases ho'
  exact ⟨_, es', ep', hL, r'⟩) hok hg
theorem Inv.turned {t' : Nat} {it : Addr} (I : Inv X pins σ H s) (k : ∀ b o, b ≠ it -> s.heap.get? b = some o -> h'.get? b = some o) (hn : H it = none) (hL : it ≠ X.env.locals)
  (h1 : it ∈ X.ex \/ X.s₀.heap.objs.size <= it) (h2 : ∀ x c, X.env.cells.lookup x = some c -> c ≠ it) (h3 : ∀ p ∈ X.pn ++ pins, p.1 ≠ it) : Inv X pins σ H { s with heap := h', toks := t' } := by
 have nit : ∀ b u, H b = some u -> b ≠ it := fun b u e z => by rw [z, hn] at e; cases e
 refine I.step (g' := s.gens) (d' := s.drawn) (ch := [it]) (fun b hb => ?_) (fun b o _ _ hc e _ => k b o (fun z => hc (by simp [z])) e) (fun b o _ _ hc e _ => ⟨o.slots, k b o (fun z => hc (by simp [z])) e⟩) (fun _ _ _ _ n => n)
  (fun b o hc e => ⟨o, k b o (fun z => hc (by simp [z])) e⟩) (fun _ _ e => e) (fun _ _ _ e => e) (fun b ps e => ⟨#[], by rw [e]; simp⟩) (fun m hm => ?_) (fun b u e => ?_) I.bare
 ·have e : b = it := by simpa using hb
  subst e
  exact ⟨h1, hL, h2, h3⟩
 ·obtain ⟨o, es, ep, ho, r⟩ := hm
  exact ⟨o, es, ep, k _ o (Ne.symm hL) ho, r⟩
 ·refine (I.hok b u e).stay (fun c v hc q => k c v ?_ q) (fun _ q => q) fun _ _ q => q
  rcases hc with z | z
  ·rw [z]; exact nit b u e
  ·exact nit c _ z
theorem Inv.tok (I : Inv X pins σ H s) (t : Nat) : Inv X pins σ H { s with toks := t } := I.un (h' := s.heap) (t' := t) Un.refl I.hok
theorem Inv.kept {t' : Nat} (I : Inv X pins σ H s) (k : ∀ b u, s.heap.get? b = some u -> h'.get? b = some u) : Inv X pins σ H { s with heap := h', toks := t' } := I.un (Un.kept k) (I.hok.kept k)
theorem Inv.laid {a : Addr} {o : HO} {t' : Nat} (I : Inv X pins σ H s) (k : ∀ b u, s.heap.get? b = some u -> h'.get? b = some u) (hp : s.heap.objs.size <= a) (new : ObjOk X.prog X.w (upd H a o) h' a o) :
  Inv X pins σ (upd H a o) { s with heap := h', toks := t' } := I.un (Un.laid k hp (I.hok.fresh hp)) (I.hok.laid k hp new)
theorem Inv.write {x e : Addr} {o : HO} {t' : Nat} (I : Inv X pins σ H s) (mu : Mut (H x)) (he : e = x \/ H e = some (.own x)) (k : ∀ b u, b ≠ e -> s.heap.get? b = some u -> h'.get? b = some u) (heo : ∃ u, h'.get? e = some u)
  (new : ObjOk X.prog X.w (upd H x o) h' x o) : Inv X pins σ (upd H x o) { s with heap := h', toks := t' } := I.un (Un.write mu he k heo) (I.hok.write mu he k heo new)
theorem Inv.pins_of {pins' : List (Addr × Obj)} (I : Inv X pins σ H s) (h : ∀ p ∈ pins', s.heap.get? p.1 = some p.2 /\ H p.1 = none /\ p.1 ≠ X.env.locals /\ p.1 ∉ X.fs /\ ∀ v, p.2.data ≠ .cell v) : Inv X pins' σ H s :=
 ⟨I.ok, I.os, I.bare, I.base, I.loc, I.cell, I.free, I.freeC, fun p hp => (zZ.mp hp).elim (fun z => I.pin p (yL _ z)) (h p), I.hok, I.len⟩
theorem nodup_ix {N : List Str} (hN : N.Nodup) {i j : Nat} {x : Str} (a : N[i]? = some x) (b : N[j]? = some x) : i = j := by
 obtain ⟨h1, e1⟩ := zB.mp a
 obtain ⟨h2, e2⟩ := zB.mp b
 exact (List.getElem_inj hN).mp (e1.trans e2.symm)
theorem store_ok2 {M : Model} {A : Around} {E : Value -> Shared -> Prop} {i : Nat} {x : Str} {v : V} {u : Value} {Q : Unit -> Shared -> Prop} (I : Inv X pins σ H s) (hN : X.N.Nodup) (hi : X.N[i]? = some x) (hx : Loc X.env.scope x) (r : RelV v u)
  (h : ∀ s', Inv X pins (σ.set i (some v)) H s' -> (∃ a, Heap.SameBut a s.heap s'.heap /\ (a = X.env.locals \/ X.env.cells.lookup x = some a)) -> Q () s') (hf : X.fn x = true \/ X.env.scope.names.lookup x = some .local := by first | exact .inl rfl | exact .inr rfl | assumption) : wpAny M A (storeName X.env x u) Q E s := by
 obtain ⟨m, hn, hl⟩ := id I.loc
 have hcls : (X.env.scope.kind == .class || (X.env.scope.kind == .module && X.env.locals != X.env.globals)) = false := by rw [I.ok.kind]; rfl
 have hiσ : i < σ.length := by rw [I.len]; exact (zB.mp hi).1
 have cne := I.cne
 have tracked : ∀ {a : Addr} {h' : Heap}, (∃ o, s.heap.get? a = some o /\ H a = none) -> Heap.SameBut a s.heap h' -> HOk X.prog X.w H h' := fun {a h'} ha hs b ob e => by
  obtain ⟨_, _, hfree⟩ := ha
  refine (I.hok b ob e).stay (fun c w' hc q => (hs.2 c ?_).trans q) (fun _ q => q) fun _ _ q => q
  rintro rfl
  rcases hc with rfl | hc
  ·rw [hfree] at e; cases e
  ·rw [hfree] at hc; cases hc
 rcases hx with hk | hk
 ·refine wpAny_storeName_local hk hn (fun h' hn' hs => ?_) hcls
  obtain ⟨oL, _, _, hoL, _⟩ := id hn
  refine h _ ⟨I.ok, I.os, I.bare, ⟨fun b o e n hb hx => ?_, fun b o e n hb hx => ?_, I.base.free, fun b o e hx => ?_, I.base.tups, I.base.frzs, I.base.tbls⟩, ⟨_, hn', fun j y v' e1 e2 e3 => ?_⟩, fun y c e => ?_, I.free, I.freeC, fun p hp => ?_, tracked ⟨oL, hoL, I.free⟩ hs, by simpa using I.len⟩ ⟨_, hs, .inl rfl⟩
  ·exact (hs.2 b (zV (zW (Heap.lt_size e) I.ok.above))).trans (I.base.keep b o e n hb hx)
  ·obtain ⟨sl, e1⟩ := I.base.slot b o e n hb hx
   exact ⟨sl, (hs.2 b (zV (zW (Heap.lt_size e) I.ok.above))).trans e1⟩
  ·obtain ⟨o', e1⟩ := I.base.there b o e hx
   exact ⟨o', (hs.2 b (zV (zW (Heap.lt_size e) I.ok.above))).trans e1⟩
  ·by_cases hj : j = i
   ·subst hj
    rw [hi] at e1; cases e1
    rw [List.getElem?_set_self hiσ] at e2
    cases e2
    exact ⟨u, r, .inl ⟨hk, by simp⟩⟩
   ·rw [List.getElem?_set_ne (Ne.symm hj)] at e2
    obtain ⟨u', r', q⟩ := hl j y v' e1 e2 e3
    refine ⟨u', r', ?_⟩
    rcases q with ⟨k, e⟩ | ⟨k, c, e, z⟩
    ·refine .inl ⟨k, ?_⟩
     have : y ≠ x := fun e => hj (nodup_ix hN e1 (e ▸ hi))
     simp [this, e]
    ·exact .inr ⟨k, c, e, z.sameBut hs (cne y c e)⟩
  ·obtain ⟨w', z⟩ := I.cell y c e
   exact ⟨w', z.sameBut hs (cne y c e)⟩
  ·obtain ⟨e, n, ne, nf, d⟩ := I.pin p hp
   exact ⟨(hs.2 p.1 ne).trans e, n, ne, nf, d⟩
 ·have hfn : X.fn x = true := by
   rcases hf with z | z
   ·exact z
   ·rw [z] at hk; cases hk
  obtain ⟨c, hc⟩ := I.ok.has x (.inl hk)
  obtain ⟨w', z⟩ := I.cell x c hc
  refine wpAny_storeName_cell I.ok.kind hk hc z (fun h' hc' hs => ?_)
  obtain ⟨oc, hoc, hocd⟩ := id z
  refine h { s with heap := h' } ⟨I.ok, I.os, I.bare, ⟨fun b o e n hb hx => ?_, fun b o e n hb hx => ?_, I.base.free, fun b o e hx => ?_, I.base.tups, I.base.frzs, I.base.tbls⟩, ⟨m, hn.sameBut hs (Ne.symm (cne x c hc)), fun j y v' e1 e2 e3 => ?_⟩, fun y c' e => ?_, I.free, I.freeC, fun p hp => ?_, tracked ⟨oc, hoc, I.freeC x c hc⟩ hs, by simpa using I.len⟩ ⟨c, hs, .inr hc⟩
  ·exact (hs.2 b (zV (zW (Heap.lt_size e) (I.ok.cab x c hfn hc)))).trans (I.base.keep b o e n hb hx)
  ·obtain ⟨sl, e1⟩ := I.base.slot b o e n hb hx
   exact ⟨sl, (hs.2 b (zV (zW (Heap.lt_size e) (I.ok.cab x c hfn hc)))).trans e1⟩
  ·obtain ⟨o', e1⟩ := I.base.there b o e hx
   exact ⟨o', (hs.2 b (zV (zW (Heap.lt_size e) (I.ok.cab x c hfn hc)))).trans e1⟩
  ·by_cases hj : j = i
   ·subst hj
    rw [hi] at e1; cases e1
    rw [List.getElem?_set_self hiσ] at e2
    cases e2
    exact ⟨u, r, .inr ⟨.inl hk, c, hc, hc'⟩⟩
   ·rw [List.getElem?_set_ne (Ne.symm hj)] at e2
    obtain ⟨u', r', q⟩ := hl j y v' e1 e2 e3
    refine ⟨u', r', ?_⟩
    rcases q with q | ⟨k, c', e, z'⟩
    ·exact .inl q
    ·refine .inr ⟨k, c', e, z'.sameBut hs ?_⟩
     rintro rfl
     exact hj (nodup_ix hN e1 (I.ok.inj _ _ _ e hc ▸ hi))
  ·by_cases hcc : c' = c
   ·subst hcc; exact ⟨_, hc'⟩
   ·obtain ⟨w2, z2⟩ := I.cell y c' e
    exact ⟨w2, z2.sameBut hs hcc⟩
  ·obtain ⟨e, n, ne, nf, d⟩ := I.pin p hp
   refine ⟨(hs.2 p.1 ?_).trans e, n, ne, nf, d⟩
   intro q
   rw [q, hoc] at e
   have q' : oc = p.2 := Option.some.inj e
   exact d w' (by rw [<- q']; exact hocd)
theorem store_ok {M : Model} {A : Around} {E : Value -> Shared -> Prop} {i : Nat} {x : Str} {v : V} {u : Value} {Q : Unit -> Shared -> Prop} (I : Inv X pins σ H s) (hN : X.N.Nodup) (hi : X.N[i]? = some x) (hx : Loc X.env.scope x) (r : RelV v u)
  (h : ∀ s', Inv X pins (σ.set i (some v)) H s' -> Q () s') (hf : X.fn x = true \/ X.env.scope.names.lookup x = some .local := by first | exact .inl rfl | exact .inr rfl | assumption) : wpAny M A (storeName X.env x u) Q E s :=
 store_ok2 I hN hi hx r (fun s' I' _ => h s' I') hf
theorem Inv.call' {s' : Shared} {ch : List Addr} (I : Inv X pins σ H s) (ho : s'.os = s.os) (u : Un (frs X.stack) ch H H' s.heap s'.heap) (hok : HOk X.prog X.w H' s'.heap) (hg : AllBare s'.gens)
  (hch : ∀ b ∈ ch, (b ∈ X.ex \/ X.s₀.heap.objs.size <= b) /\ b ≠ X.env.locals /\ (∀ x c, X.env.cells.lookup x = some c -> c ≠ b) /\ ∀ p ∈ X.pn ++ pins, p.1 ≠ b) : Inv X pins σ H' s' := by
 obtain ⟨h', g', d', t', o'⟩ := s'
 have e : o' = s.os := ho
 subst e
 exact I.call (g' := g') (t' := t') (d' := d') u hok hg hch
end
abbrev XK := Value -> Option Addr -> Hp -> Prop
abbrev St := List (Option V)
abbrev VK := V -> Hp -> Prop
abbrev TE := St -> Hp -> VK -> Prop
abbrev TT := St -> Hp -> (Bool -> Hp -> Prop) -> Prop
abbrev TA := St -> Hp -> (List V -> Hp -> Prop) -> Prop
structure Ends where
 nx : St -> Hp -> Prop
 rt : VK
 bk : St -> Hp -> Prop := fun _ _ => False
 ct : St -> Hp -> Prop := fun _ _ => False
abbrev TS := Ends -> St -> Hp -> Prop
def EP (X : Cx) (pins : List (Addr × Obj)) (σ : St) (Q : VK) (u : Value) (s' : Shared) : Prop := ∃ v H', Inv X pins σ H' s' /\ RelV v u /\ Q v H'
def TP (X : Cx) (pins : List (Addr × Obj)) (σ : St) (Q : Bool -> Hp -> Prop) (b : Bool) (s' : Shared) : Prop := ∃ H', Inv X pins σ H' s' /\ Q b H'
def AP (X : Cx) (pins : List (Addr × Obj)) (σ : St) (Q : List V -> Hp -> Prop) (us : List Value) (s' : Shared) : Prop := ∃ vs H', Inv X pins σ H' s' /\ Vals vs us /\ Q vs H'
def SP (X : Cx) (pins : List (Addr × Obj)) (D : Ends) (f : Flow) (s' : Shared) : Prop :=
 match f with
 | .next => ∃ σ' H', Inv X pins σ' H' s' /\ D.nx σ' H'
 | .brk => ∃ σ' H', Inv X pins σ' H' s' /\ D.bk σ' H'
 | .cont => ∃ σ' H', Inv X pins σ' H' s' /\ D.ct σ' H'
 | .ret u => ∃ v σ' H', Inv X pins σ' H' s' /\ RelV v u /\ D.rt v H'
def PE (X : Cx) (e : Expr) (t : TE) : Prop :=
 ∀ (pins : List (Addr × Obj)) (s : Shared) (σ : St) (H : Hp) (Q : VK), Inv X pins σ H s -> t σ H Q -> wpAny (model X.prog X.w) X.A (eval e X.env) (EP X pins σ Q) X.xe s
def PT (X : Cx) (e : Expr) (t : TT) : Prop :=
 ∀ (pins : List (Addr × Obj)) (s : Shared) (σ : St) (H : Hp) (Q : Bool -> Hp -> Prop), Inv X pins σ H s -> t σ H Q -> wpAny (model X.prog X.w) X.A (isTrue e X.env (eval e X.env)) (TP X pins σ Q) X.xe s
def PW (X : Cx) (e : Expr) (t : TT) : Prop :=
 ∀ (whole : Sem Value) (pins : List (Addr × Obj)) (s : Shared) (σ : St) (H : Hp) (Q : Bool -> Hp -> Prop), Inv X pins σ H s -> t σ H Q -> wpAny (model X.prog X.w) X.A (isTrue e X.env whole) (TP X pins σ Q) X.xe s
theorem PW.pt {X : Cx} {e : Expr} {t : TT} (h : PW X e t) : PT X e t := h _
def PA (X : Cx) (es : List Expr) (t : TA) : Prop :=
 ∀ (pos : Pos) (pins : List (Addr × Obj)) (s : Shared) (σ : St) (H : Hp) (Q : List V -> Hp -> Prop), Inv X pins σ H s -> t σ H Q -> wpAny (model X.prog X.w) X.A (spliced (backTo pos (starEach es X.env))) (AP X pins σ Q) X.xe s
def PS (X : Cx) (st : Stmt) (t : TS) : Prop :=
 ∀ (pins : List (Addr × Obj)) (s : Shared) (σ : St) (H : Hp) (D : Ends), Inv X pins σ H s -> t D σ H -> wpAny (model X.prog X.w) X.A (exec st X.env) (SP X pins D) X.xe s
def PSs (X : Cx) (st : List Stmt) (t : TS) : Prop :=
 ∀ (pins : List (Addr × Obj)) (s : Shared) (σ : St) (H : Hp) (D : Ends), Inv X pins σ H s -> t D σ H -> wpAny (model X.prog X.w) X.A (execs st X.env) (SP X pins D) X.xe s
theorem thn {α : Type} {t : Sem α} {Q Q' : α -> Shared -> Prop} {M : Model} {A : Around} {E : Value -> Shared -> Prop} {s : Shared} (h : wpAny M A t Q E s) (hQ : ∀ a s, Q a s -> Q' a s) : wpAny M A t Q' E s := wpAny_mono h hQ fun _ _ x => x
end L2
namespace L2
open PySem PySem.Spec PyProof.Rows
section
variable {X : Cx}
def tVar (i : Nat) : TE := fun σ H Q => ∃ v, σ[i]? = some (some v) /\ Q v H
def tC (v : V) : TE := fun _ H Q => Q v H
theorem pe_var {i : Nat} {x : Str} {pos : Pos} (hN : X.N[i]? = some x) (hv : Vis X.env.scope x) (hd : (x == ("__debug__" : Str)) = false := by decide) (hcd : (x == ("__classdict__" : Str)) = false := by decide) : PE X (.Name x pos) (tVar i) := by
 intro pins s σ H Q I h
 obtain ⟨v, e, h⟩ := h
 obtain ⟨m, hn, hl⟩ := I.loc
 obtain ⟨u, r, l⟩ := hl i x v hN e hv
 have fin : EP X pins σ Q u s := ⟨v, H, I, r, h⟩
 rcases l with ⟨hk, hm⟩ | ⟨hk, c, hc, hcell⟩
 ·exact wpAny_Name (wpAny_loadName_local I.ok.kind hk hn hm fin) hd
 ·rcases hk with hk | hk
  ·exact wpAny_Name (wpAny_loadName_cell I.ok.kind hk hc hcell fin) hd
  ·exact wpAny_Name (wpAny_loadName_free I.ok.kind hk hc hcell fin hcd) hd
theorem yq {i j pos} : PE X (.Constant (.int i) j pos) (tC (.int i)) := fun _ _ _ H _ I h => wpAny_Constant_int ⟨.int i, H, I.tok _, ⟨_, rfl⟩, h⟩
theorem pe_bl {b j pos} : PE X (.Constant (.bool b) j pos) (tC (.bl b)) := fun _ _ _ H _ I h => Constant_bool ⟨.bl b, H, I, rfl, h⟩
theorem pe_non {j pos} : PE X (.Constant .none j pos) (tC .non) := fun _ _ _ H _ I h => Constant_none ⟨.non, H, I, rfl, h⟩
theorem xh {x j pos} : PE X (.Constant (.str x) j pos) (tC (.str x)) := fun _ _ _ H _ I h => Calls.Constant_str ⟨.str x, H, I.tok _, ⟨_, rfl⟩, h⟩
def Gl (X : Cx) (x : Str) : Prop := X.env.kindOf x = some .globalImplicit
theorem ld_glob {E : Value -> Shared -> Prop} {pins : List (Addr × Obj)} {s : Shared} {σ : St} {H : Hp} {x : Str} {u : Value} {pos : Pos} {Q : Value -> Shared -> Prop} (I : Inv X pins σ H s) (hg : Gl X x) (hm : X.mg x = some u) (h : Q u s)
  (hd : (x == ("__debug__" : Str)) = false := by decide) : wpAny (model X.prog X.w) X.A (eval (.Name x pos) X.env) Q E s :=
 Calls.Name_function_global I.ok.kind hg (Calls.loadGlobal_global (by rw [I.ok.glob]; exact I.mod.glob.keeps I.bk) hm h) hd
theorem ld_blt {E : Value -> Shared -> Prop} {pins : List (Addr × Obj)} {s : Shared} {σ : St} {H : Hp} {x : Str} {u : Value} {pos : Pos} {Q : Value -> Shared -> Prop} (I : Inv X pins σ H s) (hg : Gl X x) (hm : X.mg x = none) (hv : bootBuiltins x = some u) (h : Q u s)
  (hn : x ≠ "__name__" := by decide) (hd : (x == ("__debug__" : Str)) = false := by decide) : wpAny (model X.prog X.w) X.A (eval (.Name x pos) X.env) Q E s := by
 obtain ⟨mb, h1, h2⟩ := I.mod.blt
 exact Calls.Name_function_global I.ok.kind hg (Calls.loadGlobal_builtin (by rw [I.ok.glob]; exact I.mod.glob.keeps I.bk) hm (by rw [I.ok.blt]; exact h1.keeps I.bk) ((h2 x hn).trans hv) h) hd
theorem xZ {x : Str} {v : V} {u : Value} {pos : Pos} (hg : Gl X x) (hm : X.mg x = some u) (r : RelV v u) (hd : (x == ("__debug__" : Str)) = false := by decide) : PE X (.Name x pos) (tC v) :=
 fun _ _ _ H _ I h => ld_glob I hg hm ⟨v, H, I, r, h⟩ hd
theorem pe_bltn {x : Str} {v : V} {u : Value} {pos : Pos} (hg : Gl X x) (hm : X.mg x = none) (hv : bootBuiltins x = some u) (r : RelV v u) (hn : x ≠ "__name__" := by decide) (hd : (x == ("__debug__" : Str)) = false := by decide) : PE X (.Name x pos) (tC v) :=
 fun _ _ _ H _ I h => ld_blt I hg hm hv ⟨v, H, I, r, h⟩ hn hd
variable {a b : Expr} {ta tb : TE} {pos : Pos}
def PC (X : Cx) (op : CmpOp) (a b : Expr) (t : TE) : Prop :=
 ∀ (pins : List (Addr × Obj)) (s : Shared) (σ : St) (H : Hp) (Q : VK), Inv X pins σ H s -> t σ H Q ->
  wpAny (model X.prog X.w) X.A (eval a X.env) (fun v s₁ => wpAny (model X.prog X.w) X.A (eval b X.env) (fun u s₂ => wpAny (model X.prog X.w) X.A (compareOp op v u) (EP X pins σ Q) X.xe s₂) X.xe s₁) X.xe s
theorem nobehind (b : Expr) {op : CmpOp} (h : op ≠ .In) (h2 : op ≠ .NotIn) : behindInMarks op b = false := by
 have e1 : (op == CmpOp.In) = false := by cases op <;> first | rfl | exact absurd rfl h
 have e2 : (op == CmpOp.NotIn) = false := by cases op <;> first | rfl | exact absurd rfl h2
 cases b <;> simp [behindInMarks, e1, e2]
def tIsN (ta : TE) : TE := fun σ H Q => ta σ H fun x H1 => Q (.bl (decide (x = .non))) H1
def tNotN (ta : TE) : TE := fun σ H Q => ta σ H fun x H1 => Q (.bl (!decide (x = .non))) H1
theorem RelV.none_iff {x : V} {v : Value} (r : RelV x v) : (v == Value.none) = decide (x = .non) := by
 cases x with
 | non => cases r; rfl
 | bl _ => cases r; rfl
 | int _ => obtain ⟨t, rfl⟩ := r; rfl
 | str _ => obtain ⟨t, rfl⟩ := r; rfl
 | byt _ => obtain ⟨t, rfl⟩ := r; rfl
 | flt _ => obtain ⟨t, rfl⟩ := r; rfl
 | ref _ => cases r; rfl
 | ty _ => cases r; rfl
theorem pc_isN {j pos'} (ha : PE X a ta) : PC X .Is a (.Constant .none j pos') (tIsN ta) := by
 intro pins s σ H Q I h
 refine thn (ha pins s σ H _ I h) fun v s1 ⟨x, H1, I1, r1, q1⟩ => ?_
 exact Constant_none (is_none_gen ⟨.bl _, H1, I1, by rw [r1.none_iff]; rfl, q1⟩)
theorem pc_notN {j pos'} (ha : PE X a ta) : PC X .IsNot a (.Constant .none j pos') (tNotN ta) := by
 intro pins s σ H Q I h
 refine thn (ha pins s σ H _ I h) fun v s1 ⟨x, H1, I1, r1, q1⟩ => ?_
 exact Constant_none (isnot_none_gen ⟨.bl _, H1, I1, by rw [r1.none_iff]; rfl, q1⟩)
def tB (t : TE) : TT := fun σ H Q => t σ H fun x H1 => ∃ c, x = .bl c /\ Q c H1
theorem pe_cmp {op : CmpOp} {t : TE} (h : PC X op a b t) (h1 : behindInMarks op b = false := by first | exact nobehind _ (by decide) (by decide) | rfl) : PE X (.Compare a [op] [b] pos) t := fun pins s σ H Q I hw => wpAny_Compare1 (h pins s σ H Q I hw) h1
theorem pt_cmp {op : CmpOp} {t : TE} (h : PC X op a b t) (h1 : behindInMarks op b = false := by first | exact nobehind _ (by decide) (by decide) | rfl) : PT X (.Compare a [op] [b] pos) (tB t) := by
 intro pins s σ H Q I hw
 refine wpAny_isTrue_Compare1 (thn (h pins s σ H _ I hw) fun v s1 h1 => thn h1 fun u s2 h2 => thn h2 fun c s3 ⟨x, H1, I1, r1, q1⟩ => ?_) h1
 obtain ⟨d, rfl, q⟩ := q1
 cases r1
 exact wpAny_truthy_bool ⟨H1, I1, q⟩
theorem pt_val {e : Expr} {t : TE} (h : PE X e t) (he : ∀ whole, isTrue e X.env whole = (do let v <- whole; standAt e.pos; holding [v] (truthy v)) := by intro _; rfl) : PT X e (tB t) := by
 intro pins s σ H Q I hw
 refine isTrue_plain (thn (h pins s σ H _ I hw) fun v s1 ⟨x, H1, I1, r1, q1⟩ => ?_) (he _)
 obtain ⟨d, rfl, q⟩ := q1
 cases r1
 exact wpAny_truthy_bool ⟨H1, I1, q⟩
variable {tA tB' : TT} {rest : List Expr}
def tAnd (t u : TT) : TT := fun σ H Q => t σ H fun c H1 => if c = true then u σ H1 Q else Q false H1
def tOr (t u : TT) : TT := fun σ H Q => t σ H fun c H1 => if c = true then Q true H1 else u σ H1 Q
def tNot (t : TT) : TT := fun σ H Q => t σ H fun c H1 => Q (!c) H1
theorem pw_and1 (ha : PT X a tA) : PW X (.BoolOp .And [a] pos) tA := by
 intro wh pins s σ H Q I h
 refine isTrue_and (thn (ha pins s σ H Q I h) fun c s1 e => ?_)
 cases c with
 | true => exact isTrue_and_nil e
 | false => exact e
theorem pw_or1 (ha : PT X a tA) : PW X (.BoolOp .Or [a] pos) tA := by
 intro wh pins s σ H Q I h
 refine isTrue_or (thn (ha pins s σ H Q I h) fun c s1 e => ?_)
 cases c with
 | false => exact isTrue_or_nil e
 | true => exact e
theorem pw_and (ha : PT X a tA) (hb : PW X (.BoolOp .And (b :: rest) pos) tB') : PW X (.BoolOp .And (a :: b :: rest) pos) (tAnd tA tB') := by
 intro wh pins s σ H Q I h
 refine isTrue_and (thn (ha pins s σ H _ I h) fun c s1 ⟨H1, I1, q1⟩ => ?_)
 cases c with
 | true => exact hb wh pins s1 σ H1 Q I1 q1
 | false => exact ⟨H1, I1, q1⟩
theorem pw_or (ha : PT X a tA) (hb : PW X (.BoolOp .Or (b :: rest) pos) tB') : PW X (.BoolOp .Or (a :: b :: rest) pos) (tOr tA tB') := by
 intro wh pins s σ H Q I h
 refine isTrue_or (thn (ha pins s σ H _ I h) fun c s1 ⟨H1, I1, q1⟩ => ?_)
 cases c with
 | true => exact ⟨H1, I1, q1⟩
 | false => exact hb wh pins s1 σ H1 Q I1 q1
theorem pt_not (ha : PT X a tA) : PT X (.UnaryOp .Not a pos) (tNot tA) := by
 intro pins s σ H Q I h
 exact isTrue_not (ha pins s σ H (fun c H1 => Q (!c) H1) I h)
def tAndV (ta tb : TE) : TE := fun σ H Q => ta σ H fun x H1 => ∃ c, x = .bl c /\ if c = true then tb σ H1 Q else Q (.bl false) H1
def tOrV (ta tb : TE) : TE := fun σ H Q => ta σ H fun x H1 => ∃ c, x = .bl c /\ if c = true then Q (.bl true) H1 else tb σ H1 Q
def tNotV (ta : TE) : TE := fun σ H Q => ta σ H fun x H1 => ∃ c, x = .bl c /\ Q (.bl (!c)) H1
theorem pe_one {op} {t : TE} (h : PE X a t) : PE X (.BoolOp op [a] pos) t := fun pins s σ H Q I hw => BoolOp_one (h pins s σ H Q I hw)
theorem pe_and (ha : PE X a ta) (hb : PE X (.BoolOp .And (b :: rest) pos) tb) : PE X (.BoolOp .And (a :: b :: rest) pos) (tAndV ta tb) := by
 intro pins s σ H Q I h
 refine BoolOp_and (thn (ha pins s σ H _ I h) fun v s1 ⟨x, H1, I1, r1, q1⟩ => ?_)
 obtain ⟨c, rfl, q1⟩ := q1
 cases r1
 refine wpAny_truthy_bool ?_
 cases c with
 | true => exact hb pins s1 σ H1 Q I1 q1
 | false => exact ⟨.bl false, H1, I1, rfl, q1⟩
theorem pe_not (ha : PE X a ta) : PE X (.UnaryOp .Not a pos) (tNotV ta) := by
 intro pins s σ H Q I h
 refine UnaryOp_ (thn (ha pins s σ H _ I h) fun v s1 ⟨x, H1, I1, r1, q1⟩ => ?_)
 obtain ⟨c, rfl, q1⟩ := q1
 cases r1
 exact not_of (wpAny_truthy_bool ⟨.bl (!c), H1, I1, rfl, q1⟩)
def tIf (t : TT) (ta tb : TE) : TE := fun σ H Q => t σ H fun c H1 => if c = true then ta σ H1 Q else tb σ H1 Q
theorem pe_ifExp {c : Expr} (hc : PT X c tA) (ha : PE X a ta) (hb : PE X b tb) : PE X (.IfExp c a b pos) (tIf tA ta tb) := by
 intro pins s σ H Q I h
 refine wpAny_IfExp (thn (hc pins s σ H _ I h) fun d s1 ⟨H1, I1, q1⟩ => ?_)
 cases d with
 | true => exact ha pins s1 σ H1 Q I1 q1
 | false => exact hb pins s1 σ H1 Q I1 q1
end
end L2
namespace L2
open PySem PySem.Spec PyProof.Rows
def SqL (K : PySem.W.Frag) (H : Hp) (a : Addr) (xs : List V) : Prop :=
 Rd H a (.lst xs) \/
  ∃ (o : Obj) (its : Array Value) (n : Nat), K.lookup a = some o /\ o.cls = .type "list" /\ o.dict = none /\ o.data = .seq its n /\ its.size <= sizeLine /\ Vals xs its.toList
def SqT (K : PySem.W.Frag) (H : Hp) (a : Addr) (xs : List V) : Prop :=
 Rd H a (.tup xs) \/
  ∃ (o : Obj) (its : Array Value) (n : Nat), K.lookup a = some o /\ o.cls = .type "tuple" /\ o.data = .seq its n /\ its.size <= sizeLine /\ Vals xs its.toList
def absV : Value -> Option V
 | .none => some .non
 | .bool b => some (.bl b)
 | .int i _ => some (.int i)
 | .str x _ => some (.str x)
 | .bytes b _ => some (.byt b)
 | .float b _ => some (.flt b)
 | .ref a => some (.ref a)
 | .type n => some (.ty n)
 | _ => none
theorem RelV.abs {x : V} {u : Value} (r : RelV x u) : absV u = some x := by
 cases x with
 | non => cases r; rfl
 | bl _ => cases r; rfl
 | int _ => obtain ⟨t, rfl⟩ := r; rfl
 | str _ => obtain ⟨t, rfl⟩ := r; rfl
 | byt _ => obtain ⟨t, rfl⟩ := r; rfl
 | flt _ => obtain ⟨t, rfl⟩ := r; rfl
 | ref _ => cases r; rfl
 | ty _ => cases r; rfl
theorem RelV.inj {x y : V} {u : Value} (r : RelV x u) (q : RelV y u) : x = y := Option.some.inj (r.abs.symm.trans q.abs)
theorem Vals.inj : ∀ {xs ys : List V} {us : List Value}, Vals xs us -> Vals ys us -> xs = ys
 | _, _, _, .nil, .nil => rfl
 | _, _, _, .cons r t, .cons r' t' => by rw [r.inj r', Vals.inj t t']
section
variable {X : Cx} {pins : List (Addr × Obj)} {σ : St} {H : Hp} {s : Shared} {a : Addr} {xs ys : List V}
theorem SqL.of {K : PySem.W.Frag} (h : H a = some (.lst xs)) : SqL K H a xs := .inl (.inl h)
theorem SqT.of {K : PySem.W.Frag} (h : H a = some (.tup xs)) : SqT K H a xs := .inl (.inl h)
theorem Inv.list (I : Inv X pins σ H s) (h : SqL X.K H a xs) : ∃ its : List Value, Vals xs its /\ PlainL s.heap a its.toArray /\ xs.length <= sizeLine := by
 rcases h with h | ⟨o, its, n, hk, hc, hd, hs, hz, r⟩
 ·obtain ⟨z, its, n, r, e⟩ := h.ok I.hok
  exact ⟨its, r, ⟨_, n, e, rfl, rfl, rfl⟩, z⟩
 ·refine ⟨its.toList, r, ⟨o, n, I.kIn a o hk, hc, hd, by simpa using hs⟩, ?_⟩
  have e := r.length
  simp only [Array.length_toList] at e
  omega
theorem Inv.tuple (I : Inv X pins σ H s) (h : SqT X.K H a xs) : ∃ its : List Value, Vals xs its /\ IsTup s.heap a its.toArray /\ xs.length <= sizeLine := by
 rcases h with h | ⟨o, its, n, hk, hc, hs, hz, r⟩
 ·obtain ⟨z, its, r, p⟩ := h.ok I.hok
  exact ⟨its, r, p, z⟩
 ·refine ⟨its.toList, r, ⟨o, I.kIn a o hk, hc, n, by simpa using hs⟩, ?_⟩
  have e := r.length
  simp only [Array.length_toList] at e
  omega
theorem Inv.list_inj (I : Inv X pins σ H s) (h : SqL X.K H a xs) (h' : SqL X.K H a ys) : xs = ys := by
 obtain ⟨its, r, ⟨o, n, e, _, _, d⟩, _⟩ := I.list h
 obtain ⟨its', r', ⟨o', n', e', _, _, d'⟩, _⟩ := I.list h'
 rw [e] at e'; cases e'
 rw [d] at d'
 injection d' with d1 _
 have : its = its' := by simpa using congrArg Array.toList d1
 subst this
 exact r.inj r'
theorem Inv.tuple_inj (I : Inv X pins σ H s) (h : SqT X.K H a xs) (h' : SqT X.K H a ys) : xs = ys := by
 obtain ⟨its, r, ⟨o, e, _, n, d⟩, _⟩ := I.tuple h
 obtain ⟨its', r', ⟨o', e', _, n', d'⟩, _⟩ := I.tuple h'
 rw [e] at e'; cases e'
 rw [d] at d'
 injection d' with d1 _
 have : its = its' := by simpa using congrArg Array.toList d1
 subst this
 exact r.inj r'
end
abbrev Cx.wish (X : Cx) (E : Value -> Shared -> Prop) : Cx := { X with xe := E }
abbrev Cx.nox (X : Cx) : Cx := X.wish fun _ _ => False
theorem Cx.Ok.wish {X : Cx} (ok : X.Ok) (E : Value -> Shared -> Prop) : (X.wish E).Ok :=
 ⟨ok.mod, ok.kind, ok.glob, ok.blt, ok.above, ok.inj, ok.has, ok.cab, ok.hd, ok.frames, ok.stk, ok.exf, ok.bs, ok.bsz, ok.noex, ok.exfs, ok.funs, ok.frf⟩
theorem Cx.Ok.unwish {X : Cx} {E : Value -> Shared -> Prop} (ok : (X.wish E).Ok) : X.Ok :=
 ⟨ok.mod, ok.kind, ok.glob, ok.blt, ok.above, ok.inj, ok.has, ok.cab, ok.hd, ok.frames, ok.stk, ok.exf, ok.bs, ok.bsz, ok.noex, ok.exfs, ok.funs, ok.frf⟩
section
variable {X : Cx} {pins : List (Addr × Obj)} {σ : St} {H : Hp} {s : Shared} {E : Value -> Shared -> Prop}
theorem Inv.wish (I : Inv X pins σ H s) (E : Value -> Shared -> Prop) : Inv (X.wish E) pins σ H s := ⟨I.ok.wish E, I.os, I.bare, I.base, I.loc, I.cell, I.free, I.freeC, I.pin, I.hok, I.len⟩
theorem Inv.unwish (I : Inv (X.wish E) pins σ H s) : Inv X pins σ H s := ⟨I.ok.unwish, I.os, I.bare, I.base, I.loc, I.cell, I.free, I.freeC, I.pin, I.hok, I.len⟩
theorem SP.unwish {D : Ends} {f : Flow} {s' : Shared} (h : SP (X.wish E) pins D f s') : SP X pins D f s' := by
 cases f with
 | next => obtain ⟨σ', H', I, q⟩ := h; exact ⟨σ', H', I.unwish, q⟩
 | brk => obtain ⟨σ', H', I, q⟩ := h; exact ⟨σ', H', I.unwish, q⟩
 | cont => obtain ⟨σ', H', I, q⟩ := h; exact ⟨σ', H', I.unwish, q⟩
 | ret u => obtain ⟨v, σ', H', I, r, q⟩ := h; exact ⟨v, σ', H', I.unwish, r, q⟩
theorem PSs.nox {st : List Stmt} {t : TS} (h : PSs X.nox st t) : PSs X st t := fun pins s σ H D I hw =>
 wpAny_mono (h pins s σ H D (I.wish _) hw) (fun _ _ q => q.unwish) fun _ _ z => False.elim z
end
section
variable {X : Cx} {st : Stmt} {rest : List Stmt} {t u : TS} {e : Expr} {te : TE} {pos : Pos}
def tNext : TS := fun D σ H => D.nx σ H
def tSeq (t u : TS) : TS := fun D σ H => t { D with nx := u D } σ H
theorem xE : PSs X [] tNext := fun _ _ σ H _ I h => wpAny_execs_nil ⟨σ, H, I, h⟩
theorem pss_cons (h1 : PS X st t) (h2 : PSs X rest u) : PSs X (st :: rest) (tSeq t u) := by
 intro pins s σ H D I h
 refine wpAny_execs_cons (thn (h1 pins s σ H { D with nx := u D } I h) fun f s1 q => ?_)
 cases f with
 | next =>
  obtain ⟨σ', H', I', q⟩ := q
  exact h2 pins s1 σ' H' D I' q
 | ret v => exact q
 | brk => exact q
 | cont => exact q
theorem pss_one (h1 : PS X st t) : PSs X [st] t := by
 intro pins s σ H D I h
 refine wpAny_execs_cons (thn (h1 pins s σ H D I h) fun f s1 q => ?_)
 cases f with
 | next => exact wpAny_execs_nil q
 | ret v => exact q
 | brk => exact q
 | cont => exact q
theorem Inv.quiet {pins : List (Addr × Obj)} {σ : St} {H : Hp} {s : Shared} (I : Inv X pins σ H s) : interactive X.env = false := by simp [interactive, I.ok.kind]
def tDrop (te : TE) : TS := fun D σ H => te σ H fun _ H1 => D.nx σ H1
theorem xX (he : PE X e te) (hs : swapsWith e none pos.line X.env = pure false := by rfl) : PS X (.Expr e pos) (tDrop te) := by
 intro pins s σ H D I h
 exact wpAny_Expr_any (thn (he pins s σ H _ I h) fun v s1 ⟨x, H1, I1, r1, q1⟩ => ⟨σ, H1, I1, q1⟩) I.quiet hs
def tRet (te : TE) : TS := fun D σ H => te σ H D.rt
theorem xJ (he : PE X e te) : PS X (.Return (some e) pos) (tRet te) := by
 intro pins s σ H D I h
 exact wpAny_Return_some (thn (he pins s σ H _ I h) fun v s1 ⟨x, H1, I1, r1, q1⟩ => ⟨x, σ, H1, I1, r1, q1⟩)
def tRetN : TS := fun D _ H => D.rt .non H
theorem ps_retN : PS X (.Return none pos) tRetN := fun _ _ σ H _ I h => wpAny_Return_none ⟨.non, σ, H, I, rfl, h⟩
def tIfS (c : TT) (t u : TS) : TS := fun D σ H => c σ H fun b H1 => if b = true then t D σ H1 else u D σ H1
theorem xL {c : Expr} {a b : List Stmt} {tc : TT} (hc : PT X c tc) (ha : PSs X a t) (hb : PSs X b u) : PS X (.If c a b pos) (tIfS tc t u) := by
 intro pins s σ H D I h
 refine wpAny_If (thn (hc pins s σ H _ I h) fun d s1 ⟨H1, I1, q1⟩ => ?_)
 cases d with
 | true => exact ha pins s1 σ H1 D I1 q1
 | false => exact hb pins s1 σ H1 D I1 q1
end
abbrev TG := V -> St -> Hp -> (St -> Hp -> Prop) -> Prop
abbrev TGs := List V -> St -> Hp -> (St -> Hp -> Prop) -> Prop
def PG (X : Cx) (target : Expr) (t : TG) : Prop :=
 ∀ (pins : List (Addr × Obj)) (s : Shared) (σ : St) (H : Hp) (v : V) (u : Value) (Q : St -> Hp -> Prop), Inv X pins σ H s -> RelV v u -> t v σ H Q ->
  wpAny (model X.prog X.w) X.A (assign target X.env u) (fun _ s' => ∃ σ' H', Inv X pins σ' H' s' /\ Q σ' H') X.xe s
def PGs (X : Cx) (ts : List Expr) (t : TGs) : Prop :=
 ∀ (pins : List (Addr × Obj)) (s : Shared) (σ : St) (H : Hp) (vs : List V) (us : List Value) (Q : St -> Hp -> Prop), Inv X pins σ H s -> Vals vs us -> t vs σ H Q ->
  wpAny (model X.prog X.w) X.A (assignInOrder ((assignEach ts X.env).map (·.2)) us) (fun _ s' => ∃ σ' H', Inv X pins σ' H' s' /\ Q σ' H') X.xe s
abbrev TSet := V -> V -> V -> Hp -> (Hp -> Prop) -> Prop
def PSet (X : Cx) (t : TSet) : Prop :=
 ∀ (pins : List (Addr × Obj)) (s : Shared) (σ : St) (H : Hp) (o i v : V) (ov iv u : Value) (Q : Hp -> Prop), Inv X pins σ H s -> RelV o ov -> RelV i iv -> RelV v u -> t o i v H Q ->
  wpAny (model X.prog X.w) X.A (setItem ov iv u) (fun _ s' => ∃ H', Inv X pins σ H' s' /\ Q H') X.xe s
abbrev TIp := V -> V -> Hp -> VK -> Prop
def PIp (X : Cx) (op : Operator) (t : TIp) : Prop :=
 ∀ (pins : List (Addr × Obj)) (s : Shared) (σ : St) (H : Hp) (x y : V) (v u : Value) (Q : VK), Inv X pins σ H s -> RelV x v -> RelV y u -> t x y H Q ->
  wpAny (model X.prog X.w) X.A (inplaceOp op v u) (EP X pins σ Q) X.xe s
section
variable {X : Cx} {pos : Pos}
def gName (i : Nat) : TG := fun v σ H Q => Q (σ.set i (some v)) H
theorem y8 {i : Nat} {x : Str} (hN : X.N.Nodup) (hi : X.N[i]? = some x) (hx : Loc X.env.scope x) (hf : X.fn x = true \/ X.env.scope.names.lookup x = some .local := by first | exact .inl rfl | exact .inr rfl | assumption) : PG X (.Name x pos) (gName i) := by
 intro pins s σ H v u Q I r h
 exact wpAny_assign_Name (store_ok I hN hi hx r (fun s' I' => ⟨_, H, I', h⟩) hf)
def gNil : TGs := fun vs σ H Q => vs = [] /\ Q σ H
def gCons (t : TG) (u : TGs) : TGs := fun vs σ H Q => ∃ v r, vs = v :: r /\ t v σ H fun σ' H' => u r σ' H' Q
theorem xm : PGs X [] gNil := by
 intro pins s σ H vs us Q I r h
 obtain ⟨e, h⟩ := h
 subst e
 cases r
 exact assignInOrder_nil ⟨σ, H, I, h⟩
theorem xF {e : Expr} {es : List Expr} {t : TG} {u : TGs} (h1 : PG X e t) (h2 : PGs X es u)
  (hs : (assignEach (e :: es) X.env).map (·.2) = assign e X.env :: (assignEach es X.env).map (·.2) := by rfl) : PGs X (e :: es) (gCons t u) := by
 intro pins s σ H vs us Q I r h
 obtain ⟨v, vr, e1, h⟩ := h
 subst e1
 cases r with
 | cons r rr =>
  rw [hs]
  refine assignInOrder_cons (thn (h1 pins s σ H _ _ _ I r h) fun _ s1 ⟨σ1, H1, I1, q1⟩ => ?_)
  exact h2 pins s1 σ1 H1 _ _ Q I1 rr q1
def gTup (K : PySem.W.Frag) (n : Nat) (t : TGs) : TG := fun v σ H Q => ∃ a xs, v = .ref a /\ SqT K H a xs /\ xs.length = n /\ t xs σ H Q
theorem pg_tup {es : List Expr} {k : Nat} {t : TGs} {n : Nat} (hc : X.calm = true) (h : PGs X es t)
  (hn : (assignEach es X.env).length = n := by rfl) (hst : (assignEach es X.env).findIdx? (·.1) = none := by rfl) : PG X (.Tuple es k pos) (gTup X.K n t) := by
 intro pins s σ H v u Q I r hw
 obtain ⟨a, xs, e1, hq, hl, hw⟩ := hw
 subst e1
 cases r
 obtain ⟨its, rv, ht, hz⟩ := I.tuple hq
 refine assign_Tuple_tuple (I.ok.hd hc) ht (by simp [hn, <- hl, rv.length]) hst fun h' hx => ?_
 have I1 : Inv X pins σ H { s with heap := h' } := I.kept (t' := s.toks) fun b o e => hx b o (zV (Heap.lt_size e)) e
 exact h pins _ σ H xs _ Q I1 (by simpa using rv) hw
def gSub (to ti : TE) (t : TSet) : TG := fun v σ H Q => to σ H fun o H1 => ti σ H1 fun i H2 => t o i v H2 fun H3 => Q σ H3
theorem pg_sub {o i : Expr} {to ti : TE} {t : TSet} (ho : PE X o to) (hi : PE X i ti) (hs : PSet X t)
  (ha : ∀ v, assign (.Subscript o i pos) X.env v = (do
   let ov <- holding [v] (eval o X.env)
   let iv <- holding [v, ov] (eval i X.env)
   standAt pos
   holding [v, ov, iv] (setItem ov iv v)
   release [v, ov, iv] []) := by intro _; rfl) : PG X (.Subscript o i pos) (gSub to ti t) := by
 intro pins s σ H v u Q I r h
 rw [ha]
 refine wpAny_bind (wpAny_holding (thn (ho pins s σ H _ I h) fun ov s1 ⟨x, H1, I1, r1, q1⟩ => ?_))
 refine wpAny_bind (wpAny_holding (thn (hi pins s1 σ H1 _ I1 q1) fun iv s2 ⟨y, H2, I2, r2, q2⟩ => ?_))
 refine wpAny_bind (wpAny_standAt (wpAny_bind (wpAny_holding (thn (hs pins s2 σ H2 x y v ov iv u _ I2 r1 r2 r q2) fun _ s3 ⟨H3, I3, q3⟩ => ?_))))
 exact wpAny_release ⟨σ, H3, I3, q3⟩
def tAsg (te : TE) (g : TG) : TS := fun D σ H => te σ H fun x H1 => g x σ H1 D.nx
theorem ps_asg {tg e : Expr} {te : TE} {g : TG} (he : PE X e te) (hg : PG X tg g) (hs : swapsWithSole [tg] e pos.line X.env = pure false := by rfl) (hw : swappedStores [tg] e X.env = pure none := by rfl)
  (h1 : (assignEach [tg] X.env).map (·.2) = [assign tg X.env] := by rfl) : PS X (.Assign [tg] e pos) (tAsg te g) := by
 intro pins s σ H D I h
 refine wpAny_Assign_stores (thn (he pins s σ H _ I h) fun v s1 ⟨x, H1, I1, r1, q1⟩ => ?_) hs hw
 rw [h1]
 exact thn (hg pins s1 σ H1 x v _ I1 r1 q1) fun _ s2 q => q
theorem xB {i : Nat} {x : Str} {e : Expr} {te : TE} {pos' : Pos} (hN : X.N.Nodup) (hi : X.N[i]? = some x) (hx : Loc X.env.scope x) (he : PE X e te) (hs : swapsWith e (some (.Name x pos')) pos.line X.env = pure false := by rfl) (hf : X.fn x = true \/ X.env.scope.names.lookup x = some .local := by first | exact .inl rfl | exact .inr rfl | assumption) :
  PS X (.Assign [.Name x pos'] e pos) (tAsg te (gName i)) := by
 intro pins s σ H D I h
 refine wpAny_Assign_Name (thn (he pins s σ H _ I h) fun v s1 ⟨y, H1, I1, r1, q1⟩ => ?_) hs
 exact store_ok I1 hN hi hx r1 (fun s2 I2 => ⟨_, H1, I2, q1⟩) hf
def tAugS (to ti te : TE) (tget : V -> V -> Hp -> VK -> Prop) (tip : TIp) (tset : TSet) : TS := fun D σ H => to σ H fun o H1 => ti σ H1 fun i H2 => tget o i H2 fun x H3 => te σ H3 fun y H4 => tip x y H4 fun z H5 => tset o i z H5 fun H6 => D.nx σ H6
def PGet (X : Cx) (t : V -> V -> Hp -> VK -> Prop) : Prop :=
 ∀ (pins : List (Addr × Obj)) (s : Shared) (σ : St) (H : Hp) (o i : V) (ov iv : Value) (Q : VK), Inv X pins σ H s -> RelV o ov -> RelV i iv -> t o i H Q ->
  wpAny (model X.prog X.w) X.A (getItem ov iv) (EP X pins σ Q) X.xe s
theorem ps_augS {o i e : Expr} {to ti te : TE} {tget : V -> V -> Hp -> VK -> Prop} {tip : TIp} {tset : TSet} {op : Operator} {tpos : Pos} (ho : PE X o to) (hi : PE X i ti) (hg : PGet X tget) (he : PE X e te) (hp : PIp X op tip) (hs : PSet X tset)
  (ha : ∀ ov iv new, augStore i ov iv new = (do holding [new, ov, iv] (setItem ov iv new); release [new, ov, iv] []; pure .next) := by intros; rfl) : PS X (.AugAssign (.Subscript o i tpos) op e pos) (tAugS to ti te tget tip tset) := by
 intro pins s σ H D I h
 refine wpAny_AugAssign_SubscriptAny (thn (ho pins s σ H _ I h) fun ov s1 ⟨x1, H1, I1, r1, q1⟩ => ?_) ha
 refine thn (hi pins s1 σ H1 _ I1 q1) fun iv s2 ⟨x2, H2, I2, r2, q2⟩ => ?_
 refine thn (hg pins s2 σ H2 x1 x2 ov iv _ I2 r1 r2 q2) fun old s3 ⟨x3, H3, I3, r3, q3⟩ => ?_
 refine thn (he pins s3 σ H3 _ I3 q3) fun v s4 ⟨x4, H4, I4, r4, q4⟩ => ?_
 refine thn (hp pins s4 σ H4 x3 x4 old v _ I4 r3 r4 q4) fun new s5 ⟨x5, H5, I5, r5, q5⟩ => ?_
 exact thn (hs pins s5 σ H5 x1 x2 x5 ov iv new _ I5 r1 r2 r5 q5) fun _ s6 ⟨H6, I6, q6⟩ => ⟨σ, H6, I6, q6⟩
def ipI (f : Int -> Int -> Int) : TIp := fun x y H Q => ∃ i j, x = .int i /\ y = .int j /\ Q (.int (f i j)) H
theorem ip_add : PIp X .Add (ipI fun i j => i + j) := by
 intro pins s σ H x y v u Q I r1 r2 h
 obtain ⟨i, j, e1, e2, q⟩ := h
 subst e1; subst e2
 obtain ⟨t, rfl⟩ := r1
 obtain ⟨t', rfl⟩ := r2
 exact iadd_int ⟨.int _, H, I.tok _, ⟨_, rfl⟩, q⟩
end
section
variable {X : Cx} {pos : Pos}
end
structure It where
 go : Nat -> Hp -> Prop
 yld : Nat -> Hp -> V -> Hp -> Prop
 stop : Nat -> Hp -> Prop
def FpOk (X : Cx) (pins : List (Addr × Obj)) (H : Hp) (b : Addr) : Prop :=
 H b = none /\ b ≠ X.env.locals /\ b ∉ X.fs /\ (b ∈ X.ex \/ X.s₀.heap.objs.size <= b) /\ (∀ x c, X.env.cells.lookup x = some c -> c ≠ b) /\ ∀ p ∈ X.pn ++ pins, p.1 ≠ b
theorem Inv.fpOk {X : Cx} {pins : List (Addr × Obj)} {σ : St} {H H' : Hp} {s : Shared} {b : Addr} (I : Inv X pins σ H s) (hb : s.heap.objs.size <= b) (hn : H' b = none) : FpOk X pins H' b := by
 refine ⟨hn, yi (zW I.lt hb), I.nofs hb, .inr (ze I.sz hb), fun x c e z => ?_, fun p hp z => ?_⟩
 ·obtain ⟨v, q⟩ := I.cell x c e
  exact absurd (zW q.lt (by rw [z]; exact hb)) (zk _)
 ·exact absurd (zW (Heap.lt_size (I.pin p hp).1) (by rw [z]; exact hb)) (zk _)
structure Turn (P : Program) (w : World) (K : PySem.W.Frag) (tg : Expr) (J : It) (fp : List Addr) (it : Addr) (tn : Nat -> Heap -> Prop) : Prop where
 mem : it ∈ fp
 obj : ∀ i h, tn i h -> ∀ b ∈ fp, ∃ o, h.get? b = some o /\ ∀ v, o.data ≠ .cell v
 keep : ∀ i h h', tn i h -> (∀ b ∈ fp, ∀ o, h.get? b = some o -> h'.get? b = some o) -> tn i h'
 item : ∀ (X : Cx), X.prog = P -> X.w = w -> X.K = K -> X.calm = true -> ∀ (i : Nat) (pins : List (Addr × Obj)) (s : Shared) (σ : St) (H : Hp) (E : Value -> Shared -> Prop), Inv X pins σ H s -> (∀ b ∈ fp, FpOk X pins H b) -> tn i s.heap -> J.go i H ->
  wpAny (model P w) X.A (pyNext (.ref it)) (fun r s1 => ∃ u, r = some u /\
   wpAny (model P w) X.A (letOwnedTupleGo tg (.ref it) u) (fun _ s2 => ∃ x H', Inv X pins σ H' s2 /\ RelV x u /\ J.yld i H x H' /\ tn (i + 1) s2.heap /\ ∀ b ∈ fp, H' b = none) E s1) E s
 done : ∀ (X : Cx), X.prog = P -> X.w = w -> X.K = K -> X.calm = true -> ∀ (i : Nat) (pins : List (Addr × Obj)) (s : Shared) (σ : St) (H : Hp) (E : Value -> Shared -> Prop), Inv X pins σ H s -> (∀ b ∈ fp, FpOk X pins H b) -> tn i s.heap -> J.stop i H ->
  wpAny (model P w) X.A (pyNext (.ref it)) (fun r s1 => r = none /\ Inv X pins σ H s1) E s
 self : ∀ (A : Around) (i : Nat) (s : Shared) (Q : Value -> Shared -> Prop) (E : Value -> Shared -> Prop), tn i s.heap -> Q (.ref it) s -> wpAny (model P w) A (pyIter (.ref it)) Q E s
abbrev TI := St -> Hp -> (It -> Hp -> Prop) -> Prop
def PIE (X : Cx) (pins : List (Addr × Obj)) (σ : St) (tg : Expr) (R : It -> Hp -> Prop) (itv : Value) (s2 : Shared) : Prop :=
 ∃ (it : Addr) (fp : List Addr) (tn : Nat -> Heap -> Prop) (J : It) (H' : Hp), itv = .ref it /\ Inv X pins σ H' s2 /\ Turn X.prog X.w X.K tg J fp it tn /\ tn 0 s2.heap /\ (∀ b ∈ fp, FpOk X pins H' b) /\ R J H'
def PI (X : Cx) (tg iter : Expr) (wi : TI) : Prop :=
 ∀ (pins : List (Addr × Obj)) (s : Shared) (σ : St) (H : Hp) (R : It -> Hp -> Prop), Inv X pins σ H s -> wi σ H R ->
  wpAny (model X.prog X.w) X.A (eval iter X.env) (fun v s1 => wpAny (model X.prog X.w) X.A (pyIter v) (PIE X pins σ tg R) X.xe s1) X.xe s
theorem go_of {M : Model} {A : Around} {E : Value -> Shared -> Prop} {s : Shared} {tg : Expr} {it : Addr} {u : Value} {o : Obj} {n : String} {vs : Array Value} {Q : Unit -> Shared -> Prop} (ho : s.heap.get? it = some o) (hc : o.cls = .type n) (hd : o.data = .fields vs)
    (hn : ["enumerate", "zip", "dict_itemiterator", "dict_reverseitemiterator", "odict_iterator", "itertools.zip_longest", "itertools.pairwise"].contains n = false) (hQ : Q () s) : wpAny M A (letOwnedTupleGo tg (.ref it) u) Q E s := by
  unfold letOwnedTupleGo
  cases tg <;> first
    | exact wpAny_pure hQ
    | (cases u <;> first
        | exact wpAny_pure hQ
        | (refine wpAny_bind (wpAny_load ho ?_)
           rw [hc, hd]
           show wpAny M A (if (["enumerate", "zip", "dict_itemiterator", "dict_reverseitemiterator", "odict_iterator", "itertools.zip_longest", "itertools.pairwise"].contains n && vs[0]? == some (rawInt _)) = true then _ else _) Q E s
           rw [if_neg (by intro h; rw [hn, yE] at h; cases h)]
           exact wpAny_pure hQ))
def Itl (K : PySem.W.Frag) (a : Addr) : It :=
 ⟨fun i H => ∃ xs x, SqL K H a xs /\ xs[i]? = some x, fun i H x H' => H' = H /\ ∀ xs, SqL K H a xs -> xs[i]? = some x, fun i H => ∃ xs, SqL K H a xs /\ xs.length <= i⟩
def Itt (K : PySem.W.Frag) (a : Addr) : It :=
 ⟨fun i H => ∃ xs x, SqT K H a xs /\ xs[i]? = some x, fun i H x H' => H' = H /\ ∀ xs, SqT K H a xs -> xs[i]? = some x, fun i H => ∃ xs, SqT K H a xs /\ xs.length <= i⟩
def Itr (lo : Int) (n : Nat) : It := ⟨fun i _ => i < n, fun i H x H' => H' = H /\ x = .int (lo + i), fun i _ => n <= i⟩
theorem turn_list {P : Program} {w : World} {K : PySem.W.Frag} {tg : Expr} (a it : Addr) : Turn P w K tg (Itl K a) [it] it (fun i h => h.IsListIter it a i) where
 mem := by simp
 obj := fun i h st b hb => by
  have e : b = it := by simpa using hb
  subst e
  obtain ⟨o, e, c, d⟩ := st
  exact ⟨o, e, fun v z => by rw [d] at z; cases z⟩
 keep := fun i h h' st k => st.at fun o e => k it (by simp) o e
 item := by
  intro X hP hw hK hc i pins s σ H E I hf st hg
  subst hP hw hK
  obtain ⟨xs, x, hq, hx⟩ := hg
  obtain ⟨its, rv, p, hz⟩ := I.list hq
  obtain ⟨u, hu, ru⟩ := rv.get hx
  obtain ⟨f0, f1, f2, f3, f4, f5⟩ := hf it (by simp)
  refine wpAny_pyNext_list_item st p.isList (x := u) (by simpa using hu) fun h' st' sb => ?_
  have I1 : Inv X pins σ H { s with heap := h' } := I.turned (t' := s.toks) (fun b o hb e => (sb.2 b hb).trans e) f0 f1 f3 f4 f5
  obtain ⟨o, e, c, d⟩ := id st'
  exact ⟨u, rfl, go_of (s := { s with heap := h' }) e c d (by decide) ⟨x, H, I1, ru, ⟨rfl, fun ys hy => by rw [I.list_inj hy hq]; exact hx⟩, st', fun b hb => (hf b hb).1⟩⟩
 done := by
  intro X hP hw hK hc i pins s σ H E I hf st hg
  subst hP hw hK
  obtain ⟨xs, hq, hx⟩ := hg
  obtain ⟨its, rv, p, hz⟩ := I.list hq
  obtain ⟨f0, f1, f2, f3, f4, f5⟩ := hf it (by simp)
  have hl := rv.length
  exact wpAny_pyNext_list_end (I.ok.hd hc) st p.isList (by simp; omega) fun h' eb => ⟨rfl, I.turned (t' := s.toks) (fun b o hb e => eb b o hb e) f0 f1 f3 f4 f5⟩
 self := fun _ _ _ _ _ st h => wpAny_pyIter_listiter st h
theorem turn_tuple {P : Program} {w : World} {K : PySem.W.Frag} {tg : Expr} (a it : Addr) : Turn P w K tg (Itt K a) [it] it (fun i h => h.IsTupleIter it a i) where
 mem := by simp
 obj := fun i h st b hb => by
  have e : b = it := by simpa using hb
  subst e
  obtain ⟨o, e, c, d⟩ := st
  exact ⟨o, e, fun v z => by rw [d] at z; cases z⟩
 keep := fun i h h' st k => st.at fun o e => k it (by simp) o e
 item := by
  intro X hP hw hK hc i pins s σ H E I hf st hg
  subst hP hw hK
  obtain ⟨xs, x, hq, hx⟩ := hg
  obtain ⟨its, rv, p, hz⟩ := I.tuple hq
  obtain ⟨u, hu, ru⟩ := rv.get hx
  obtain ⟨f0, f1, f2, f3, f4, f5⟩ := hf it (by simp)
  refine wpAny_pyNext_tuple_item st (show s.heap.IsTuple a its.toArray from p) (x := u) (by simpa using hu) fun h' st' sb => ?_
  have I1 : Inv X pins σ H { s with heap := h' } := I.turned (t' := s.toks) (fun b o hb e => (sb.2 b hb).trans e) f0 f1 f3 f4 f5
  obtain ⟨o, e, c, d⟩ := id st'
  exact ⟨u, rfl, go_of (s := { s with heap := h' }) e c d (by decide) ⟨x, H, I1, ru, ⟨rfl, fun ys hy => by rw [I.tuple_inj hy hq]; exact hx⟩, st', fun b hb => (hf b hb).1⟩⟩
 done := by
  intro X hP hw hK hc i pins s σ H E I hf st hg
  subst hP hw hK
  obtain ⟨xs, hq, hx⟩ := hg
  obtain ⟨its, rv, p, hz⟩ := I.tuple hq
  obtain ⟨f0, f1, f2, f3, f4, f5⟩ := hf it (by simp)
  have hl := rv.length
  exact wpAny_pyNext_tuple_end (I.ok.hd hc) st (show s.heap.IsTuple a its.toArray from p) (by simp; omega) fun h' eb => ⟨rfl, I.turned (t' := s.toks) (fun b o hb e => eb b o hb e) f0 f1 f3 f4 f5⟩
 self := fun _ _ _ _ _ st h => wpAny_pyIter_tupleiter st h
theorem turn_range {P : Program} {w : World} {K : PySem.W.Frag} {tg : Expr} (it : Addr) (lo : Int) (n : Nat) : Turn P w K tg (Itr lo n) [it] it (fun i h => IsRangeIter h it (lo + (i : Nat) * 1) ((n : Int) - (i : Nat)) 1) where
 mem := by simp
 obj := fun i h st b hb => by
  have e : b = it := by simpa using hb
  subst e
  exact ⟨_, st, fun v z => by
   have z' : Data.fields _ = Data.cell v := z
   cases z'⟩
 keep := fun i h h' st k => k it (by simp) _ st
 item := by
  intro X hP hw hK hc i pins s σ H E I hf st hg
  subst hP hw hK
  obtain ⟨f0, f1, f2, f3, f4, f5⟩ := hf it (by simp)
  have W := Walks.range (prog := X.prog) (w := X.w) (I.ok.hd hc) it lo 1 n
  refine W.item i s _ _ hg st fun v h' tk hv st' kk => ?_
  obtain ⟨t, rfl⟩ := hv
  have I1 : Inv X pins σ H { s with heap := h', toks := tk } := I.turned (fun b o hb e => kk b o (by simpa using hb) e) f0 f1 f3 f4 f5
  refine ⟨_, rfl, go_of (s := { s with heap := h', toks := tk }) (n := "range_iterator") st' rfl rfl (by decide) ⟨.int (lo + i), H, I1, ⟨t, ?_⟩, ⟨rfl, rfl⟩, st', fun b hb => (hf b hb).1⟩⟩
  rw [Int.mul_one]
 done := by
  intro X hP hw hK hc i pins s σ H E I hf st hg
  subst hP hw hK
  obtain ⟨f0, f1, f2, f3, f4, f5⟩ := hf it (by simp)
  exact wpAny_pyNext_range_end (I.ok.hd hc) st (by have : n <= i := hg; omega) fun h' eb => ⟨rfl, I.turned (t' := s.toks) (fun b o hb e => eb b o hb e) f0 f1 f3 f4 f5⟩
 self := fun _ _ _ _ _ st h => wpAny_pyIter_rangeiter st h
end L2
namespace L2
open PySem PySem.Spec PyProof.Rows
section
variable {X : Cx} {tg : Expr}
def iList (K : PySem.W.Frag) (tl : TE) : TI := fun σ H R => tl σ H fun x H1 => ∃ a, x = .ref a /\ (∃ xs, SqL K H1 a xs) /\ R (Itl K a) H1
def iTup (K : PySem.W.Frag) (tl : TE) : TI := fun σ H R => tl σ H fun x H1 => ∃ a, x = .ref a /\ (∃ xs, SqT K H1 a xs) /\ R (Itt K a) H1
theorem pi_list {l : Expr} {tl : TE} (hl : PE X l tl) : PI X tg l (iList X.K tl) := by
 intro pins s σ H R I h
 refine thn (hl pins s σ H _ I h) fun v s1 ⟨x, H1, I1, r1, q1⟩ => ?_
 obtain ⟨a, e, ⟨xs, hq⟩, q⟩ := q1
 subst e
 cases r1
 obtain ⟨its, rv, p, hz⟩ := I1.list hq
 refine wpAny_pyIter_list p.isList ?_
 refine ⟨s1.heap.objs.size, [s1.heap.objs.size], _, _, H1, rfl, I1.kept (t' := s1.toks) fun b o e => Heap.get?_push_of_some _ e, turn_list a _, ⟨_, Heap.get?_push_size _ rfl, rfl, rfl⟩, fun b hb => ?_, q⟩
 have e : b = s1.heap.objs.size := by simpa using hb
 subst e
 exact I1.fpOk (zG _) (I1.hok.fresh (zG _))
theorem pi_tup {l : Expr} {tl : TE} (hl : PE X l tl) : PI X tg l (iTup X.K tl) := by
 intro pins s σ H R I h
 refine thn (hl pins s σ H _ I h) fun v s1 ⟨x, H1, I1, r1, q1⟩ => ?_
 obtain ⟨a, e, ⟨xs, hq⟩, q⟩ := q1
 subst e
 cases r1
 obtain ⟨its, rv, p, hz⟩ := I1.tuple hq
 refine wpAny_pyIter_tuple (show s1.heap.IsTuple a its.toArray from p) ?_
 refine ⟨s1.heap.objs.size, [s1.heap.objs.size], _, _, H1, rfl, I1.kept (t' := s1.toks) fun b o e => Heap.get?_push_of_some _ e, turn_tuple a _, ⟨_, Heap.get?_push_size _ rfl, rfl, rfl⟩, fun b hb => ?_, q⟩
 have e : b = s1.heap.objs.size := by simpa using hb
 subst e
 exact I1.fpOk (zG _) (I1.hok.fresh (zG _))
theorem range_it {pins : List (Addr × Obj)} {σ : St} {H : Hp} {s : Shared} {R : It -> Hp -> Prop} {E : Value -> Shared -> Prop} {lo hi : Int} {t u v : Tok} {tk : Nat} (I : Inv X pins σ H s) (h1 : -(2 ^ 62) <= lo) (h2 : lo < 2 ^ 62) (h3 : -(2 ^ 62) <= hi) (h4 : hi < 2 ^ 62)
  (q : R (Itr lo (hi - lo).toNat) H) : wpAny (model X.prog X.w) X.A (pyIter (.ref s.heap.objs.size)) (PIE X pins σ tg R) E { s with heap := s.heap.push { cls := .type "range", data := .fields #[.int lo t, .int hi u, .int 1 v] }, toks := tk } := by
 refine wpAny_pyIter_range (IsRange.new ..) (small_one h1 h2 h3 h4) ?_
 have I1 : Inv X pins σ H { s with heap := s.heap.push { cls := .type "range", data := .fields #[.int lo t, .int hi u, .int 1 v] }, toks := tk } := I.kept fun b o e => Heap.get?_push_of_some _ e
 refine ⟨(s.heap.push { cls := .type "range", data := .fields #[.int lo t, .int hi u, .int 1 v] }).objs.size, [(s.heap.push { cls := .type "range", data := .fields #[.int lo t, .int hi u, .int 1 v] }).objs.size], _, _, H, rfl,
  I1.kept (t' := tk) fun b o e => Heap.get?_push_of_some _ e, turn_range _ lo (hi - lo).toNat, ?_, fun b hb => ?_, q⟩
 ·have e1 : lo + ((0 : Nat) : Int) * 1 = lo := by simp
  have e2 : (((hi - lo).toNat : Nat) : Int) - ((0 : Nat) : Int) = Builtin.Range.rangeSize lo hi 1 := by rw [rangeSize_one]; split <;> omega
  show IsRangeIter _ _ (lo + ((0 : Nat) : Int) * 1) ((((hi - lo).toNat : Nat) : Int) - ((0 : Nat) : Int)) 1
  rw [e1, e2]
  exact Heap.get?_push_size _ rfl
 ·have e : b = (s.heap.push { cls := .type "range", data := .fields #[.int lo t, .int hi u, .int 1 v] }).objs.size := by simpa using hb
  subst e
  exact I1.fpOk (zG _) (I1.hok.fresh (zG _))
def iRng1 (ta : TA) : TI := fun σ H R => ta σ H fun vs H1 => ∃ j : Int, vs = [.int j] /\ -(2 ^ 62) <= j /\ j < 2 ^ 62 /\ R (Itr 0 j.toNat) H1
def iRng2 (ta : TA) : TI := fun σ H R => ta σ H fun vs H1 => ∃ i j : Int, vs = [.int i, .int j] /\ (-(2 ^ 62) <= i /\ i < 2 ^ 62 /\ -(2 ^ 62) <= j /\ j < 2 ^ 62) /\ R (Itr i (j - i).toNat) H1
theorem xl {a : Expr} {ta : TA} {p pos : Pos} (hg : Gl X "range") (hm : X.mg "range" = none) (ha : PA X [a] ta) (hs : starEach [a] X.env = [(false, eval a X.env)] := by rfl) : PI X tg (.Call (.Name "range" p) [a] [] pos) (iRng1 ta) := by
 intro pins s σ H R I h
 refine Call_ (ld_blt I hg hm boot_range (PyProof.Rows.callWith_type1 (thn (ha pos pins s σ H _ I h) fun us s1 ⟨vs, H1, I1, r1, q1⟩ => ?_) hs rfl))
 obtain ⟨j, e, q1, q2, q⟩ := q1
 subst e
 cases r1 with
 | cons r rr =>
  cases rr
  obtain ⟨t, rfl⟩ := r
  exact call_range_1 (range_it I1 (by omega) (by omega) q1 q2 (by simpa using q))
theorem pi_range2 {a b : Expr} {ta : TA} {p pos : Pos} (hg : Gl X "range") (hm : X.mg "range" = none) (ha : PA X [a, b] ta) (hs : starEach [a, b] X.env = [(false, eval a X.env), (false, eval b X.env)] := by rfl) (hs2 : starEach [b] X.env = [(false, eval b X.env)] := by rfl) :
  PI X tg (.Call (.Name "range" p) [a, b] [] pos) (iRng2 ta) := by
 intro pins s σ H R I h
 refine Call_ (ld_blt I hg hm boot_range (PyProof.Rows.callWith_type1 (thn (ha pos pins s σ H _ I h) fun us s1 ⟨vs, H1, I1, r1, q1⟩ => ?_) (by rw [hs, hs2]) (by rw [hs2]; rfl)))
 obtain ⟨i, j, e, ⟨q1, q2, q3, q4⟩, q⟩ := q1
 subst e
 cases r1 with
 | cons r rr =>
  cases rr with
  | cons r' rr =>
   cases rr
   obtain ⟨t, rfl⟩ := r
   obtain ⟨t', rfl⟩ := r'
   exact call_range_2 (range_it I1 q1 q2 q3 q4 q)
def tFor (wi : TI) (g : TG) (tb : TS) : TS := fun D σ H => wi σ H fun J H1 => ∃ W : Nat -> Nat -> St -> Hp -> Prop, (∃ m, W 0 m σ H1) /\ ∀ i m σ H, W i m σ H ->
 (J.stop i H /\ D.nx σ H) \/ (J.go i H /\ ∃ N : St -> Hp -> Prop, (∀ σ' H', N σ' H' -> ∃ m', m' < m /\ W (i + 1) m' σ' H') /\ ∀ x H', J.yld i H x H' -> g x σ H' fun σ2 H2 => tb { D with nx := N, ct := N, bk := D.nx } σ2 H2)
def pinsAt (fp : List Addr) (h : Heap) : List (Addr × Obj) := fp.filterMap fun b => (h.get? b).map fun o => (b, o)
theorem xz {fp : List Addr} {h : Heap} {b : Addr} {o : Obj} (hb : b ∈ fp) (e : h.get? b = some o) : (b, o) ∈ pinsAt fp h := yT.mpr ⟨b, hb, by rw [e]; rfl⟩
theorem of_pinsAt {fp : List Addr} {h : Heap} {p : Addr × Obj} (hp : p ∈ pinsAt fp h) : p.1 ∈ fp /\ h.get? p.1 = some p.2 := by
 obtain ⟨b, hb, e⟩ := yT.mp hp
 cases q : h.get? b with
 | none => rw [q] at e; cases e
 | some o =>
  rw [q] at e
  have e' : (b, o) = p := Option.some.inj e
  subst e'
  exact ⟨hb, q⟩
theorem Inv.pinned {pins : List (Addr × Obj)} {σ : St} {H : Hp} {s : Shared} {fp : List Addr} (I : Inv X pins σ H s) (hf : ∀ b ∈ fp, FpOk X pins H b) (ho : ∀ b ∈ fp, ∃ o, s.heap.get? b = some o /\ ∀ v, o.data ≠ .cell v) : Inv X (pins ++ pinsAt fp s.heap) σ H s :=
 I.pins_of fun p hp => (zZ.mp hp).elim (fun z => I.pin p (zS _ z)) fun z => by
  obtain ⟨hb, e⟩ := of_pinsAt z
  obtain ⟨f0, f1, f2, _⟩ := hf p.1 hb
  obtain ⟨o, e', d⟩ := ho p.1 hb
  rw [e] at e'; cases e'
  exact ⟨e, f0, f1, f2, d⟩
theorem Inv.unpinned {pins pl : List (Addr × Obj)} {σ : St} {H : Hp} {s : Shared} (I : Inv X (pins ++ pl) σ H s) : Inv X pins σ H s := I.pins_of fun p hp => I.pin p (zS _ (yL _ hp))
theorem ps_for {iter : Expr} {body : List Stmt} {wi : TI} {g : TG} {tb : TS} {pos : Pos} (hp : PassesOwn (model X.prog X.w) X.A X.env X.xe) (hc : X.calm = true) (hi : PI X tg iter wi) (hg : PG X tg g) (hb : PSs X body tb)
  (hs : ∀ x, foldedSetIterable iter X.env x = pure x := by intro _; rfl) : PS X (.For tg iter body [] pos) (tFor wi g tb) := by
 intro pins s σ H D I h
 refine wpAny_For (thn (hi pins s σ H _ I h) fun v s1 h1 => thn h1 fun itv s2 h2 => ?_) hs
 obtain ⟨it, fp, tn, J, H2, e, I2, T, st2, f2, W, ⟨m0, w0⟩, turn⟩ := h2
 subst e
 -- what stays true of the iterator's objects through the loop
 have stat : ∀ {H' : Hp}, (∀ b ∈ fp, H' b = none) -> ∀ b ∈ fp, FpOk X pins H' b := fun hn b hb => ⟨hn b hb, (f2 b hb).2⟩
 refine codeAny_forLoop_any (fun n s' => ∃ i σ' H', Inv X pins σ' H' s' /\ tn i s'.heap /\ (∀ b ∈ fp, H' b = none) /\ W i n σ' H') ?_ m0 ⟨0, σ, H2, I2, st2, fun b hb => (f2 b hb).1, w0⟩
 rintro n s3 ⟨i, σ3, H3, I3, st3, fr3, w3⟩
 rcases turn i n σ3 H3 w3 with ⟨stop, qn⟩ | ⟨go, N, hN, step⟩
 ·refine wpAny_passesOwn hp (thn (T.done X rfl rfl rfl hc i pins s3 σ3 H3 X.xe I3 (stat fr3) st3 stop) fun r s4 ⟨hr, I4⟩ => ?_)
  subst hr
  exact wpAny_execs_nil ⟨σ3, H3, I4, qn⟩
 ·refine wpAny_passesOwn hp (thn (T.item X rfl rfl rfl hc i pins s3 σ3 H3 X.xe I3 (stat fr3) st3 go) fun r s4 ⟨u, hr, h4⟩ => ?_)
  subst hr
  refine wpAny_passesOwn hp (thn h4 fun _ s5 ⟨x, H5, I5, r5, y5, st5, fr5⟩ => ?_)
  have I5' := I5.pinned (stat fr5) (T.obj _ _ st5)
  refine wpAny_passesOwn hp (thn (hg _ s5 σ3 H5 x u _ I5' r5 (step x H5 y5)) fun _ s6 ⟨σ6, H6, I6, q6⟩ => ?_)
  refine wpAny_passesOwn hp (thn (hb _ s6 σ6 H6 _ I6 q6) fun f s7 q7 => ?_)
  have again : ∀ {σ7 : St} {H7 : Hp}, Inv X (pins ++ pinsAt fp s5.heap) σ7 H7 s7 -> N σ7 H7 -> ∃ m, m < n /\ ∃ i σ' H', Inv X pins σ' H' s7 /\ tn i s7.heap /\ (∀ b ∈ fp, H' b = none) /\ W i m σ' H' := fun {σ7 H7} I7 n7 => by
   obtain ⟨m', hm, w7⟩ := hN σ7 H7 n7
   refine ⟨m', hm, i + 1, σ7, H7, I7.unpinned, T.keep _ _ _ st5 fun b hb o e => (I7.pin (b, o) (zS _ (zS _ (xz hb e)))).1, fun b hb => ?_, w7⟩
   obtain ⟨o, e, d⟩ := T.obj _ _ st5 b hb
   exact (I7.pin (b, o) (zS _ (zS _ (xz hb e)))).2.1
  cases f with
  | next => obtain ⟨σ7, H7, I7, n7⟩ := q7; exact again I7 n7
  | cont => obtain ⟨σ7, H7, I7, n7⟩ := q7; exact again I7 n7
  | brk => obtain ⟨σ7, H7, I7, q7⟩ := q7; exact ⟨σ7, H7, I7.unpinned, q7⟩
  | ret v => obtain ⟨x7, σ7, H7, I7, r7, q7⟩ := q7; exact ⟨x7, σ7, H7, I7.unpinned, r7, q7⟩
end
theorem for_list {K : PySem.W.Frag} {a : Addr} {xs : List V} {g : TG} {tb : TS} {D : Ends} {σ : St} {H : Hp} (Pv : Nat -> St -> Hp -> Prop) (h0 : Pv 0 σ H) (hl : ∀ i σ H, i <= xs.length -> Pv i σ H -> SqL K H a xs)
  (hs : ∀ i x σ H, xs[i]? = some x -> Pv i σ H -> g x σ H fun σ2 H2 => tb { D with nx := Pv (i + 1), ct := Pv (i + 1), bk := D.nx } σ2 H2) (hd : ∀ σ H, Pv xs.length σ H -> D.nx σ H) :
  ∃ W : Nat -> Nat -> St -> Hp -> Prop, (∃ m, W 0 m σ H) /\ ∀ i m σ H, W i m σ H ->
   ((Itl K a).stop i H /\ D.nx σ H) \/ ((Itl K a).go i H /\ ∃ N : St -> Hp -> Prop, (∀ σ' H', N σ' H' -> ∃ m', m' < m /\ W (i + 1) m' σ' H') /\ ∀ x H', (Itl K a).yld i H x H' -> g x σ H' fun σ2 H2 => tb { D with nx := N, ct := N, bk := D.nx } σ2 H2) := by
 refine ⟨fun i m σ H => m = xs.length - i /\ i <= xs.length /\ Pv i σ H, ⟨xs.length, by simp, zb _, h0⟩, ?_⟩
 rintro i m σ H ⟨rfl, hi, p⟩
 have q := hl i σ H hi p
 by_cases hlt : i < xs.length
 ·refine .inr ⟨⟨xs, xs[i], q, by simp [hlt]⟩, Pv (i + 1), fun σ' H' p' => ⟨xs.length - (i + 1), by omega, rfl, hlt, p'⟩, fun x H' y => ?_⟩
  obtain ⟨e, y⟩ := y
  subst e
  exact hs i x σ _ (y xs q) p
 ·have e : i = xs.length := by omega
  subst e
  exact .inl ⟨⟨xs, q, zG _⟩, hd σ H p⟩
theorem for_range {lo : Int} {n : Nat} {g : TG} {tb : TS} {D : Ends} {σ : St} {H : Hp} (Pv : Nat -> St -> Hp -> Prop) (h0 : Pv 0 σ H)
  (hs : ∀ i σ H, i < n -> Pv i σ H -> g (.int (lo + i)) σ H fun σ2 H2 => tb { D with nx := Pv (i + 1), ct := Pv (i + 1), bk := D.nx } σ2 H2) (hd : ∀ σ H, Pv n σ H -> D.nx σ H) :
  ∃ W : Nat -> Nat -> St -> Hp -> Prop, (∃ m, W 0 m σ H) /\ ∀ i m σ H, W i m σ H ->
   ((Itr lo n).stop i H /\ D.nx σ H) \/ ((Itr lo n).go i H /\ ∃ N : St -> Hp -> Prop, (∀ σ' H', N σ' H' -> ∃ m', m' < m /\ W (i + 1) m' σ' H') /\ ∀ x H', (Itr lo n).yld i H x H' -> g x σ H' fun σ2 H2 => tb { D with nx := N, ct := N, bk := D.nx } σ2 H2) := by
 refine ⟨fun i m σ H => m = n - i /\ i <= n /\ Pv i σ H, ⟨n, by simp, zb _, h0⟩, ?_⟩
 rintro i m σ H ⟨rfl, hi, p⟩
 by_cases hlt : i < n
 ·refine .inr ⟨hlt, Pv (i + 1), fun σ' H' p' => ⟨n - (i + 1), by omega, rfl, hlt, p'⟩, fun x H' y => ?_⟩
  obtain ⟨e, y⟩ := y
  subst e y
  exact hs i σ _ hlt p
 ·have e : i = n := by omega
  subst e
  exact .inl ⟨zG _, hd σ H p⟩
end L2
namespace L2
open PySem PySem.Spec PyProof.Rows
abbrev R2 := V -> V -> Hp -> VK -> Prop
def OpR (X : Cx) (f : Value -> Value -> Sem Value) (r : R2) : Prop :=
 ∀ (pins : List (Addr × Obj)) (s : Shared) (σ : St) (H : Hp) (x y : V) (v u : Value) (Q : VK), Inv X pins σ H s -> RelV x v -> RelV y u -> r x y H Q ->
  wpAny (model X.prog X.w) X.A (f v u) (EP X pins σ Q) X.xe s
def UnR (X : Cx) (f : Value -> Sem Value) (r : V -> Hp -> VK -> Prop) : Prop :=
 ∀ (pins : List (Addr × Obj)) (s : Shared) (σ : St) (H : Hp) (x : V) (v : Value) (Q : VK), Inv X pins σ H s -> RelV x v -> r x H Q ->
  wpAny (model X.prog X.w) X.A (f v) (EP X pins σ Q) X.xe s
def CallR (X : Cx) (f : Value) (r : List V -> Hp -> VK -> Prop) : Prop :=
 ∀ (pins : List (Addr × Obj)) (s : Shared) (σ : St) (H : Hp) (xs : List V) (us : List Value) (Q : VK), Inv X pins σ H s -> Vals xs us -> r xs H Q ->
  wpAny (model X.prog X.w) X.A (call f us) (EP X pins σ Q) X.xe s
def tOp (r : R2) (ta tb : TE) : TE := fun σ H Q => ta σ H fun x H1 => tb σ H1 fun y H2 => r x y H2 Q
def tUn (r : V -> Hp -> VK -> Prop) (ta : TE) : TE := fun σ H Q => ta σ H fun x H1 => r x H1 Q
def rI (C : Int -> Int -> Prop) (g : Int -> Int -> V) : R2 := fun x y H Q => ∃ i j, x = .int i /\ y = .int j /\ C i j /\ Q (g i j) H
def rI0 (g : Int -> Int -> V) : R2 := fun x y H Q => ∃ i j, x = .int i /\ y = .int j /\ Q (g i j) H
def rU (g : Int -> V) : V -> Hp -> VK -> Prop := fun x H Q => ∃ i, x = .int i /\ Q (g i) H
section
variable {X : Cx} {a b c : Expr} {ta tb tc : TE} {pos : Pos}
theorem binT (ha : PE X a ta) (hb : PE X b tb) {pins : List (Addr × Obj)} {s : Shared} {σ : St} {H : Hp} {R : V -> V -> Hp -> Prop} (I : Inv X pins σ H s)
  (h : ta σ H fun x H1 => tb σ H1 fun y H2 => R x y H2) {Q : Value -> Shared -> Prop} {f : Value -> Value -> Sem Value}
  (hf : ∀ v u s2 x y H2, Inv X pins σ H2 s2 -> RelV x v -> RelV y u -> R x y H2 -> wpAny (model X.prog X.w) X.A (f v u) Q X.xe s2) :
  wpAny (model X.prog X.w) X.A (eval a X.env) (fun v s₁ => wpAny (model X.prog X.w) X.A (eval b X.env) (fun u s₂ => wpAny (model X.prog X.w) X.A (f v u) Q X.xe s₂) X.xe s₁) X.xe s := by
 refine thn (ha pins s σ H _ I h) fun v s1 ⟨x, H1, I1, r1, q1⟩ => ?_
 refine thn (hb pins s1 σ H1 _ I1 q1) fun u s2 ⟨y, H2, I2, r2, q2⟩ => ?_
 exact hf v u s2 x y H2 I2 r1 r2 q2
theorem xI {op : Operator} {r : R2} (ho : OpR X (binaryOp op) r) (ha : PE X a ta) (hb : PE X b tb) : PE X (.BinOp a op b pos) (tOp r ta tb) := by
 intro pins s σ H Q I h
 exact wpAny_BinOp (binT ha hb I h fun v u s2 x y H2 I2 rx ry q => ho pins s2 σ H2 x y v u Q I2 rx ry q)
theorem pe_un {op : UnaryOp} {r : V -> Hp -> VK -> Prop} (ho : UnR X (unaryOp op) r) (ha : PE X a ta) : PE X (.UnaryOp op a pos) (tUn r ta) := by
 intro pins s σ H Q I h
 exact UnaryOp_ (thn (ha pins s σ H _ I h) fun v s1 ⟨x, H1, I1, r1, q1⟩ => ho pins s1 σ H1 x v Q I1 r1 q1)
theorem opI {f : Value -> Value -> Sem Value} {C : Int -> Int -> Prop} {g : Int -> Int -> Int}
  (rule : ∀ (i j : Int) (t u : Tok) (s : Shared) (Q : Value -> Shared -> Prop) (E : Value -> Shared -> Prop), C i j -> Q (.int (g i j) s.toks) { s with toks := s.toks + 1 } -> wpAny (model X.prog X.w) X.A (f (.int i t) (.int j u)) Q E s) :
  OpR X f (rI C fun i j => .int (g i j)) := by
 intro pins s σ H x y v u Q I rx ry h
 obtain ⟨i, j, rfl, rfl, hc, q⟩ := h
 obtain ⟨t, rfl⟩ := rx
 obtain ⟨t', rfl⟩ := ry
 exact rule i j t t' s _ _ hc ⟨.int (g i j), H, I.tok _, ⟨_, rfl⟩, q⟩
theorem opI0 {f : Value -> Value -> Sem Value} {g : Int -> Int -> Int}
  (rule : ∀ (i j : Int) (t u : Tok) (s : Shared) (Q : Value -> Shared -> Prop) (E : Value -> Shared -> Prop), Q (.int (g i j) s.toks) { s with toks := s.toks + 1 } -> wpAny (model X.prog X.w) X.A (f (.int i t) (.int j u)) Q E s) :
  OpR X f (rI0 fun i j => .int (g i j)) := by
 intro pins s σ H x y v u Q I rx ry h
 obtain ⟨i, j, rfl, rfl, q⟩ := h
 obtain ⟨t, rfl⟩ := rx
 obtain ⟨t', rfl⟩ := ry
 exact rule i j t t' s _ _ ⟨.int (g i j), H, I.tok _, ⟨_, rfl⟩, q⟩
theorem opB0 {f : Value -> Value -> Sem Value} {g : Int -> Int -> Bool}
  (rule : ∀ (i j : Int) (t u : Tok) (s : Shared) (Q : Value -> Shared -> Prop) (E : Value -> Shared -> Prop), Q (.bool (g i j)) s -> wpAny (model X.prog X.w) X.A (f (.int i t) (.int j u)) Q E s) :
  OpR X f (rI0 fun i j => .bl (g i j)) := by
 intro pins s σ H x y v u Q I rx ry h
 obtain ⟨i, j, rfl, rfl, q⟩ := h
 obtain ⟨t, rfl⟩ := rx
 obtain ⟨t', rfl⟩ := ry
 exact rule i j t t' s _ _ ⟨.bl (g i j), H, I, rfl, q⟩
def CPow (i j : Int) : Prop := 0 <= j /\ j <= 1000000 /\ i.natAbs < 2 ^ 64
def CMul (i j : Int) : Prop := (-(2 ^ 64) < i /\ i < 2 ^ 64) \/ (-(2 ^ 64) < j /\ j < 2 ^ 64)
theorem CMul.ok {i j : Int} (h : CMul i j) : IntMulOk i j := by
 rcases h with ⟨h1, h2⟩ | ⟨h1, h2⟩
 ·exact .of_left (intBits_le_64 h1 h2)
 ·exact .of_right (intBits_le_64 h1 h2)
theorem xV : OpR X (binaryOp .Add) (rI0 fun i j => .int (i + j)) := opI0 fun _ _ _ _ _ _ _ q => add_int q
theorem op_sub : OpR X (binaryOp .Sub) (rI0 fun i j => .int (i - j)) := opI0 fun _ _ _ _ _ _ _ q => sub_int q
theorem op_mul : OpR X (binaryOp .Mult) (rI CMul fun i j => .int (i * j)) := opI fun _ _ _ _ _ _ _ hc q => mul_int q hc.ok
theorem op_mod : OpR X (binaryOp .Mod) (rI (fun _ j => 0 < j) fun i j => .int (i % j)) := opI fun i j _ _ _ _ _ hc q => by
 have h1 : (0 : Int) < j := hc
 exact mod_int' (by omega) (by rw [Int.fmod_eq_emod_of_nonneg i (by omega)]; exact q)
theorem op_pow : OpR X (binaryOp .Pow) (rI CPow fun i j => .int (i ^ j.toNat)) := opI fun _ _ _ _ _ _ _ hc q => pow_int_small hc.1 hc.2.1 hc.2.2 q
theorem op_xor : OpR X (binaryOp .BitXor) (rI0 fun i j => .int (Builtin.bitXor i j)) := opI0 fun _ _ _ _ _ _ _ q => xor_int q
theorem unI {f : Value -> Sem Value} {g : Int -> Int}
  (rule : ∀ (i : Int) (t : Tok) (s : Shared) (Q : Value -> Shared -> Prop) (E : Value -> Shared -> Prop), Q (.int (g i) s.toks) { s with toks := s.toks + 1 } -> wpAny (model X.prog X.w) X.A (f (.int i t)) Q E s) :
  UnR X f (rU fun i => .int (g i)) := by
 intro pins s σ H x v Q I rx h
 obtain ⟨i, rfl, q⟩ := h
 obtain ⟨t, rfl⟩ := rx
 exact rule i t s _ _ ⟨.int (g i), H, I.tok _, ⟨_, rfl⟩, q⟩
theorem un_neg : UnR X (unaryOp .USub) (rU fun i => .int (-i)) := unI fun _ _ _ _ _ q => neg_int q
end
def scal : V -> V -> Bool
 | .non, .non => true | .non, .int _ => true | .int _, .non => true | .non, .bl _ => true | .bl _, .non => true | .non, .str _ => true | .str _, .non => true
 | .int _, .int _ => true | .bl _, .bl _ => true | .str _, .str _ => true | .byt _, .byt _ => true
 | .int _, .str _ => true | .str _, .int _ => true | .bl _, .str _ => true | .str _, .bl _ => true
 | _, _ => false
def rEq : R2 := fun x y H Q => scal x y = true /\ Q (.bl (decide (x = y))) H
def rNe : R2 := fun x y H Q => scal x y = true /\ Q (.bl (!decide (x = y))) H
theorem dec_int {i j : Int} : decide (V.int i = V.int j) = (i == j) := by
 rw [yh]
 simp
theorem dec_bl {i j : Bool} : decide (V.bl i = V.bl j) = (i == j) := by
 rw [yh]
 simp
theorem dec_str {i j : Str} : decide (V.str i = V.str j) = (i == j) := by
 rw [yh]
 simp
theorem dec_byt {i j : Array UInt8} : decide (V.byt i = V.byt j) = (i.toList == j.toList) := by
 rw [yh]
 cases i
 cases j
 simp
section
variable {X : Cx} {a b c : Expr} {ta tb tc : TE} {pos : Pos}
theorem xP {pins : List (Addr × Obj)} {σ : St} {H : Hp} {s : Shared} {Q : VK} {k k' : Bool} (I : Inv X pins σ H s) (q : Q (.bl k) H) (e : k = k') : EP X pins σ Q (.bool k') s := by
 subst e
 exact ⟨.bl k, H, I, rfl, q⟩
theorem xg : OpR X (compareOp .Eq) rEq := by
 intro pins s σ H x y v u Q I rx ry h
 obtain ⟨hs, q⟩ := h
 cases x with
 | non =>
  cases rx
  cases y with
  | non => cases ry; exact PySem.EqNone.eq_none_none (xP I q (by simp))
  | bl j => cases ry; exact PySem.EqNone.eq_none_bool (xP I q (by simp))
  | int j => obtain ⟨t', rfl⟩ := ry; exact PySem.EqNone.eq_none_int (xP I q (by simp))
  | str j => obtain ⟨t', rfl⟩ := ry; exact PySem.EqNone.eq_none_str (xP I q (by simp))
  | _ => exact absurd (show false = true from hs) zJ
 | bl i =>
  cases rx
  cases y with
  | non => cases ry; exact PySem.EqNone.eq_bool_none (xP I q (by simp))
  | bl j => cases ry; exact eq_bool (xP I q dec_bl)
  | str j => obtain ⟨t', rfl⟩ := ry; exact PySem.EqMixed.eq_bool_str (xP I q (by simp))
  | _ => exact absurd (show false = true from hs) zJ
 | int i =>
  obtain ⟨t, rfl⟩ := rx
  cases y with
  | non => cases ry; exact PySem.EqNone.eq_int_none (xP I q (by simp))
  | int j => obtain ⟨t', rfl⟩ := ry; exact eq_int (xP I q dec_int)
  | str j => obtain ⟨t', rfl⟩ := ry; exact PySem.EqMixed.eq_int_str (xP I q (by simp))
  | _ => exact absurd (show false = true from hs) zJ
 | str i =>
  obtain ⟨t, rfl⟩ := rx
  cases y with
  | non => cases ry; exact PySem.EqNone.eq_str_none (xP I q (by simp))
  | bl j => cases ry; exact PySem.EqMixed.eq_str_bool (xP I q (by simp))
  | int j => obtain ⟨t', rfl⟩ := ry; exact PySem.EqMixed.eq_str_int (xP I q (by simp))
  | str j => obtain ⟨t', rfl⟩ := ry; exact eq_str (xP I q dec_str)
  | _ => exact absurd (show false = true from hs) zJ
 | byt i =>
  obtain ⟨t, rfl⟩ := rx
  cases y with
  | byt j => obtain ⟨t', rfl⟩ := ry; exact PySem.W.eq_bytes (xP I q dec_byt)
  | _ => exact absurd (show false = true from hs) zJ
 | _ => cases y <;> exact absurd (show false = true from hs) zJ
theorem op_ne : OpR X (compareOp .NotEq) rNe := by
 intro pins s σ H x y v u Q I rx ry h
 obtain ⟨hs, q⟩ := h
 cases x with
 | non =>
  cases rx
  cases y with
  | non => cases ry; exact PySem.EqNone.ne_none_none (xP I q (by simp))
  | bl j => cases ry; exact PySem.EqNone.ne_none_bool (xP I q (by simp))
  | int j => obtain ⟨t', rfl⟩ := ry; exact PySem.EqNone.ne_none_int (xP I q (by simp))
  | str j => obtain ⟨t', rfl⟩ := ry; exact PySem.EqNone.ne_none_str (xP I q (by simp))
  | _ => exact absurd (show false = true from hs) zJ
 | bl i =>
  cases rx
  cases y with
  | non => cases ry; exact PySem.EqNone.ne_bool_none (xP I q (by simp))
  | bl j => cases ry; exact ne_bool (xP I q (congrArg not dec_bl))
  | str j => obtain ⟨t', rfl⟩ := ry; exact PySem.EqMixed.ne_bool_str (xP I q (by simp))
  | _ => exact absurd (show false = true from hs) zJ
 | int i =>
  obtain ⟨t, rfl⟩ := rx
  cases y with
  | non => cases ry; exact PySem.EqNone.ne_int_none (xP I q (by simp))
  | int j => obtain ⟨t', rfl⟩ := ry; exact ne_int (xP I q (congrArg not dec_int))
  | str j => obtain ⟨t', rfl⟩ := ry; exact PySem.EqMixed.ne_int_str (xP I q (by simp))
  | _ => exact absurd (show false = true from hs) zJ
 | str i =>
  obtain ⟨t, rfl⟩ := rx
  cases y with
  | non => cases ry; exact PySem.EqNone.ne_str_none (xP I q (by simp))
  | bl j => cases ry; exact PySem.EqMixed.ne_str_bool (xP I q (by simp))
  | int j => obtain ⟨t', rfl⟩ := ry; exact PySem.EqMixed.ne_str_int (xP I q (by simp))
  | str j => obtain ⟨t', rfl⟩ := ry; exact ne_str (xP I q (congrArg not dec_str))
  | _ => exact absurd (show false = true from hs) zJ
 | byt i =>
  obtain ⟨t, rfl⟩ := rx
  cases y with
  | byt j => obtain ⟨t', rfl⟩ := ry; exact PySem.W.ne_bytes (xP I q (congrArg not dec_byt))
  | _ => exact absurd (show false = true from hs) zJ
 | _ => cases y <;> exact absurd (show false = true from hs) zJ
theorem op_lt : OpR X (compareOp .Lt) (rI0 fun i j => .bl (decide (i < j))) := opB0 fun _ _ _ _ _ _ _ q => lt_int q
theorem op_le : OpR X (compareOp .LtE) (rI0 fun i j => .bl (decide (i <= j))) := opB0 fun _ _ _ _ _ _ _ q => le_int q
theorem op_gt : OpR X (compareOp .Gt) (rI0 fun i j => .bl (decide (j < i))) := opB0 fun _ _ _ _ _ _ _ q => gt_int q
theorem op_ge : OpR X (compareOp .GtE) (rI0 fun i j => .bl (decide (j <= i))) := opB0 fun _ _ _ _ _ _ _ q => ge_int q
theorem nomark (b : Expr) {op : CmpOp} (h : op ≠ .In := by decide) (h2 : op ≠ .NotIn := by decide) : behindInMarks op b = false := by
 have e1 : (op == CmpOp.In) = false := by cases op <;> first | rfl | exact absurd rfl h
 have e2 : (op == CmpOp.NotIn) = false := by cases op <;> first | rfl | exact absurd rfl h2
 cases b <;> simp [behindInMarks, e1, e2]
theorem pe_cmpR {op : CmpOp} {r : R2} (ho : OpR X (compareOp op) r) (ha : PE X a ta) (hb : PE X b tb) (hm : behindInMarks op b = false) : PE X (.Compare a [op] [b] pos) (tOp r ta tb) := by
 intro pins s σ H Q I h
 exact wpAny_Compare1 (binT ha hb I h fun v u s2 x y H2 I2 rx ry q => ho pins s2 σ H2 x y v u Q I2 rx ry q) hm
def tTest (t : TE) : TT := fun σ H Q => t σ H fun x H' => ∃ k, x = .bl k /\ Q k H'
theorem xA {op : CmpOp} {r : R2} (ho : OpR X (compareOp op) r) (ha : PE X a ta) (hb : PE X b tb) (hm : behindInMarks op b = false) : PT X (.Compare a [op] [b] pos) (tTest (tOp r ta tb)) := by
 intro pins s σ H Q I h
 refine wpAny_isTrue_Compare1 (thn (ha pins s σ H _ I h) fun v s1 ⟨x, H1, I1, r1, q1⟩ => thn (hb pins s1 σ H1 _ I1 q1) fun u s2 ⟨y, H2, I2, r2, q2⟩ =>
  thn (ho pins s2 σ H2 x y v u _ I2 r1 r2 q2) fun c s3 ⟨z, H3, I3, r3, k, e, q3⟩ => ?_) hm
 subst e
 cases r3
 exact wpAny_truthy_bool ⟨H3, I3, q3⟩
def tChain (r r' : R2) (ta tb tc : TE) : TE := fun σ H Q => ta σ H fun x H1 => tb σ H1 fun y H2 => r x y H2 fun z H3 => ∃ k, z = .bl k /\
 (if k = true then tc σ H3 fun w' H4 => r' y w' H4 Q else Q (.bl false) H3)
theorem pe_chain {op op' : CmpOp} {r r' : R2} (ho : OpR X (compareOp op) r) (ho' : OpR X (compareOp op') r') (ha : PE X a ta) (hb : PE X b tb) (hc : PE X c tc)
  (hm : lastMarks [op, op'] [b, c] = false := by with_unfolding_all rfl) : PE X (.Compare a [op, op'] [b, c] pos) (tChain r r' ta tb tc) := by
 intro pins s σ H Q I h
 refine Compare_chain (thn (ha pins s σ H _ I h) fun v s1 ⟨x, H1, I1, r1, q1⟩ => chain_link (thn (hb pins s1 σ H1 _ I1 q1) fun u s2 ⟨y, H2, I2, r2, q2⟩ =>
  thn (ho pins s2 σ H2 x y v u _ I2 r1 r2 q2) fun d s3 ⟨z, H3, I3, r3, k, e, q3⟩ => ?_)) hm
 subst e
 cases r3
 refine wpAny_truthy_bool ?_
 cases k with
 | false => exact ite_ff ⟨.bl false, H3, I3, rfl, q3⟩
 | true => exact ite_tt (chain_last (thn (hc pins s3 σ H3 _ I3 q3) fun w' s4 ⟨z', H4, I4, r4, q4⟩ => ho' pins s4 σ H4 y z' u w' Q I4 r2 r4 q4))
theorem line63 : (sizeLine : Nat) < 2 ^ 63 := by rw [sizeLine_eq]; decide
theorem vals1 {x : V} {us : List Value} (r : Vals [x] us) : ∃ u, us = [u] /\ RelV x u := by
 cases r with
 | cons r1 r2 => cases r2; exact ⟨_, rfl, r1⟩
theorem vals2 {x y : V} {us : List Value} (r : Vals [x, y] us) : ∃ u w', us = [u, w'] /\ RelV x u /\ RelV y w' := by
 cases r with
 | cons r1 r2 =>
  cases r2 with
  | cons r3 r4 => cases r4; exact ⟨_, _, rfl, r1, r3⟩
theorem call_max2 (hc : X.calm = true) : CallR X (.builtin "max") (fun xs H Q => ∃ i j, xs = [.int i, .int j] /\ Q (.int (if j > i then j else i)) H) := by
 intro pins s σ H xs us Q I r h
 obtain ⟨i, j, rfl, q⟩ := h
 obtain ⟨u, w', rfl, ⟨t, rfl⟩, ⟨t', rfl⟩⟩ := vals2 r
 refine max_two_ints (I.ok.hd hc) fun h' tk k => ⟨_, H, I.kept k, ?_, q⟩
 by_cases hj : j > i
 ·rw [if_pos hj, if_pos hj]; exact ⟨_, rfl⟩
 ·rw [if_neg hj, if_neg hj]; exact ⟨_, rfl⟩
theorem call_min2 (hc : X.calm = true) : CallR X (.builtin "min") (fun xs H Q => ∃ i j, xs = [.int i, .int j] /\ Q (.int (if j < i then j else i)) H) := by
 intro pins s σ H xs us Q I r h
 obtain ⟨i, j, rfl, q⟩ := h
 obtain ⟨u, w', rfl, ⟨t, rfl⟩, ⟨t', rfl⟩⟩ := vals2 r
 refine min_two_ints (I.ok.hd hc) fun h' tk k => ⟨_, H, I.kept k, ?_, q⟩
 by_cases hj : j < i
 ·rw [if_pos hj, if_pos hj]; exact ⟨_, rfl⟩
 ·rw [if_neg hj, if_neg hj]; exact ⟨_, rfl⟩
theorem call_int1 : CallR X (.type "int") (fun xs H Q => (∃ i, xs = [.int i] /\ Q (.int i) H) \/ ∃ k, xs = [.bl k] /\ Q (.int (if k then 1 else 0)) H) := by
 intro pins s σ H xs us Q I r h
 rcases h with ⟨i, rfl, q⟩ | ⟨k, rfl, q⟩
 ·obtain ⟨u, rfl, t, rfl⟩ := vals1 r
  exact call_int_int ⟨.int i, H, I, ⟨_, rfl⟩, q⟩
 ·obtain ⟨u, rfl, r1⟩ := vals1 r
  cases r1
  exact call_int_bool ⟨.int (if k then 1 else 0), H, I.tok _, ⟨_, rfl⟩, q⟩
end
end L2
namespace L2
open PySem PySem.Spec PyProof.Rows
structure ObjM (h : Heap) (x dx C : Addr) (mA : Str -> Option Value) : Prop where
 obj : h.get? x = some (yG C dx)
 ns : h.Ns1 dx mA
 ne : dx ≠ x
theorem lookIn_ns {h : Heap} {dx : Addr} {mA : Str -> Option Value} (n : h.Ns1 dx mA) : ∃ od, h.get? dx = some od /\ ∀ name, PySem.W.lookIn name od = some (mA name) := by
 obtain ⟨o, es, ep, ho, hd, hk, _, hm⟩ := n
 refine ⟨o, ho, fun name => ?_⟩
 have e := hm name
 unfold nsFind findBy at e
 rw [<- Array.find?_toList] at e
 unfold PySem.W.lookIn
 rw [hd]
 dsimp only
 split
 ·rename_i y q
  rw [q] at e
  exact congrArg some e
 ·rename_i q
  rw [q] at e
  have a : es.toList.any (·.refKey) = false := by
   rw [List.any_eq_false]
   intro y hy
   obtain ⟨z, t, hkey⟩ := hk y (Array.mem_toList_iff.mp hy)
   simp [DictEntry.refKey, hkey]
  have a' : ¬ es.toList.any (·.refKey) = true := by rw [a]; exact zJ
  rw [if_neg a']
  exact congrArg some e
theorem ObjM.look {h : Heap} {x dx C : Addr} {mA : Str -> Option Value} (I : ObjM h x dx C mA) : ∃ od, PySem.W.InstAt h x (yG C dx) C (some od) /\ ∀ name, PySem.W.lookIn name od = some (mA name) :=
 let ⟨od, ho, hl⟩ := lookIn_ns I.ns
 ⟨od, ⟨I.obj, rfl, rfl, ho⟩, hl⟩
section
variable {prog : Program} {w : World} {A : Around} {E : Value -> Shared -> Prop} {s : Shared} {K : PySem.W.Frag} {x dx C f : Addr} {mA : Str -> Option Value} {name : Str} {v : Value}
theorem get_map {expr : Bool} {Q : Value -> Shared -> Prop} (X : K.In s.heap) (I : ObjM s.heap x dx C mA) (hg : yb K C name = true) (hh : PySem.W.hasDictIn K C = true)
  (ha : zP K (.ref C) name = some none) (hv : mA name = some v) (hv' : PySem.W.handedIn v = true) (h : Q v { s with toks := s.toks + 1 }) :
  wpAny (model prog w) A (getAttr (.ref x) name expr) Q E s := by
 obtain ⟨od, J, hl⟩ := I.look
 exact PySem.W.get_value X J (PySem.W.plainGet_of hg).1 (PySem.W.findObj_own hh ha rfl (by rw [hl, hv])) hv' h
theorem get_meth {pl : Sem Bool} {Q : Value × List Value -> Shared -> Prop} (X : K.In s.heap) (I : ObjM s.heap x dx C mA) (hg : yb K C name = true)
  (hf : zP K (.ref C) name = some (some (.ref f))) (ht : zn K (.ref f) = true) (hv : mA name = none) (h : Q (.ref f, [.ref x]) s) :
  wpAny (model prog w) A (getMethod (.ref x) name pl) Q E s := by
 obtain ⟨od, J, hl⟩ := I.look
 exact PySem.W.method_fn X J (PySem.W.plainGet_of hg).1 (PySem.W.plainGet_of hg).2 hf (beq_iff_eq.mp ht) (by show (PySem.W.lookIn name od).map (·.isSome) = some false; rw [hl, hv]; rfl) h
theorem set_map {ns : List Str} {Q : Unit -> Shared -> Prop} (X : K.In s.heap) (I : ObjM s.heap x dx C mA)
  (hs : zP K (.ref C) "__setattr__" = some (some (.builtin "object.__setattr__"))) (hp : PySem.W.plainOver K C = true) (ht : PySem.W.takerIn K C name = some none) (hh : PySem.W.hasDictIn K C = true)
  (hw : PySem.Within mA ns) (hsz : ns.length <= sizeLine)
  (h : ∀ h', ObjM h' x dx C (fun y => if y = name then some v else mA y) -> Heap.SameBut dx s.heap h' -> Q () { s with heap := h', toks := s.toks + 2 }) :
  wpAny (model prog w) A (setAttr (.ref x) name v) Q E s := by
 obtain ⟨od, J, hl⟩ := I.look
 refine PySem.W.set_plain X J hs (PySem.W.osa_open (s := { s with toks := s.toks + 1 }) (r := none) X J hp ht fun b => ?_)
 obtain ⟨cd, hc, hd'⟩ := PySem.W.any_some hh
 have hx : s.heap.get? x = some ⟨.ref C, some dx, .plain, #[]⟩ := I.obj
 refine wpAny_bind (wpAny_pure (wpAny_bind (wpAny_bind (wpAny_loadPart hx (wpAny_bind (PySem.W.Looks.here (s := { s with toks := s.toks + 1 }) (PySem.W.looks_clsIn X hc) ?_))))))
 rw [hd']
 refine wpAny_pure (a := some dx) (wpAny_bind (wpAny_pure (wpAny_bind ?_)))
 refine wpAny_nsSet1 (s := { s with toks := s.toks + 1 }) I.ns fun h' hn2 hs2 => ?_
 obtain ⟨oD, esD, epD, hoD, hdD, hcD⟩ := hn2.count (PySem.Within.cons name v hw)
 refine wpAny_bind (wpAny_lookBehind hoD (by rw [hdD]; exact pastItsLine_dict (ze hcD (by rw [zf]; omega))) ?_)
 exact wpAny_pure (h _ ⟨(hs2.2 _ (Ne.symm I.ne)).trans I.obj, hn2, I.ne⟩ hs2)
theorem make_map {R : Result -> Shared -> Prop} {vs : List Value} {kw : List (Str × Value)} (X : K.In s.heap) (hm : PySem.W.makesIn K C = true)
  (hi : zP K (.ref C) "__init__" = some (some (.ref f))) (hf : PySem.W.typeIn K (.ref f) = some (.type "function"))
  (h : codeAny (model prog w) (A.under (.builtin "type.__call__" ⟨.ref C :: vs, kw⟩)) (.call (.ref f) ⟨.ref (s.heap.objs.size + 1) :: vs, kw⟩) (PySem.W.InitBack (s.heap.objs.size + 1) R)
   { s with heap := (s.heap.push zv).push (yG C s.heap.objs.size) }) :
  codeAny (model prog w) A (.call (.ref C) ⟨vs, kw⟩) R s := by
 obtain ⟨hh, g, d, t, os⟩ := s
 exact PySem.W.make_core (PySem.W.makes_of X hm) (PySem.W.looks_findIn X hi) (fun self => PySem.W.bind_fn X self hf) (.inl rfl) h
end
def putF (f : Str) (v : V) : List (Str × V) -> List (Str × V)
 | [] => [(f, v)]
 | (g, x) :: r => if g = f then (g, v) :: r else (g, x) :: putF f v r
theorem lookup_putF (f g : Str) (v : V) : ∀ fs : List (Str × V), (putF f v fs).lookup g = if g = f then some v else fs.lookup g
 | [] => by
  show yS g [(f, v)] = _
  by_cases h : g = f
  ·have hb : (g == f) = true := beq_iff_eq.mpr h
   simp only [yS, hb, if_pos h]
  ·have hb : (g == f) = false := beq_eq_false_iff_ne.mpr h
   simp only [yS, hb, if_neg h]
 | (k, x) :: r => by
  have ih := lookup_putF f g v r
  rw [show putF f v ((k, x) :: r) = (if k = f then (k, v) :: r else (k, x) :: putF f v r) from rfl]
  by_cases hk : k = f
  ·rw [if_pos hk]
   by_cases h : g = k
   ·have hb : (g == k) = true := beq_iff_eq.mpr h
    simp only [yS, hb, if_pos (h.trans hk)]
   ·have hb : (g == k) = false := beq_eq_false_iff_ne.mpr h
    simp only [yS, hb, if_neg (fun e : g = f => h (e.trans hk.symm))]
  ·rw [if_neg hk]
   by_cases h : g = k
   ·have hb : (g == k) = true := beq_iff_eq.mpr h
    simp only [yS, hb, if_neg (fun e : g = f => hk (h.symm.trans e))]
   ·have hb : (g == k) = false := beq_eq_false_iff_ne.mpr h
    simp only [yS, hb]
    exact ih
theorem keys_putF (f : Str) (v : V) : ∀ fs : List (Str × V), f ∈ (putF f v fs).map (·.1) /\ ∀ g, g ∈ fs.map (·.1) -> g ∈ (putF f v fs).map (·.1)
 | [] => ⟨by simp [putF], fun g h => by simp at h⟩
 | (k, x) :: r => by
  obtain ⟨i1, i2⟩ := keys_putF f v r
  rw [show putF f v ((k, x) :: r) = (if k = f then (k, v) :: r else (k, x) :: putF f v r) from rfl]
  by_cases hk : k = f
  ·rw [if_pos hk]
   subst hk
   exact ⟨by simp, fun g h => by simpa using h⟩
  ·rw [if_neg hk]
   refine ⟨?_, fun g h => ?_⟩
   ·rw [zc]
    exact zh _ i1
   ·rw [zc] at h ⊢
    rcases zR.mp h with e | e
    ·exact zR.mpr (.inl e)
    ·exact zh _ (i2 g e)
theorem length_putF (f : Str) (v : V) : ∀ fs : List (Str × V), (putF f v fs).length <= fs.length + 1
 | [] => by simp [putF]
 | (k, x) :: r => by
  have ih := length_putF f v r
  rw [show putF f v ((k, x) :: r) = (if k = f then (k, v) :: r else (k, x) :: putF f v r) from rfl]
  by_cases hk : k = f
  ·rw [if_pos hk, zf, zf]; omega
  ·rw [if_neg hk, zf, zf]; omega
theorem RelO.some_of {v : V} {o : Option Value} (r : RelO (some v) o) : ∃ u, o = some u /\ RelV v u := by
 cases o with
 | none => exact (show False from r).elim
 | some u => exact ⟨u, rfl, r⟩
theorem RelO.none_of {o : Option Value} (r : RelO none o) : o = none := by
 cases o with
 | none => rfl
 | some u => exact (show False from r).elim
theorem handed_of {v : V} {u : Value} (r : RelV v u) : PySem.W.handedIn u = true := by
 cases v with
 | non => cases (show u = Value.none from r); rfl
 | bl b => cases (show u = Value.bool b from r); rfl
 | int i => obtain ⟨t, e⟩ := (show ∃ t, u = Value.int i t from r); cases e; rfl
 | str x => obtain ⟨t, e⟩ := (show ∃ t, u = Value.str x t from r); cases e; rfl
 | byt b => obtain ⟨t, e⟩ := (show ∃ t, u = Value.bytes b t from r); cases e; rfl
 | flt b => obtain ⟨t, e⟩ := (show ∃ t, u = Value.float b t from r); cases e; rfl
 | ref a => cases (show u = Value.ref a from r); rfl
 | ty n => cases (show u = Value.type n from r); rfl
section
variable {P : Program} {w : World} {H H' : Hp} {h h' : Heap} {a C dx : Addr} {fs fs' : List (Str × V)}
theorem ins_get (hok : HOk P w H h) (e : H a = some (.ins C dx fs)) : ∃ mA, ObjM h a dx C mA /\ (∀ f, RelO (fs.lookup f) (mA f)) /\ PySem.Within mA (fs.map (·.1)) /\ fs.length <= 1000 /\ H dx = some (.own a) := by
 obtain ⟨d, z, ne, ob, mA, n, r, q⟩ := (show ObjOk P w H h a (.ins C dx fs) from hok a _ e)
 exact ⟨mA, ⟨ob, n, ne⟩, r, q, z, d⟩
end
structure Cls (K : PySem.W.Frag) (C : Addr) : Prop where
 pg : yb K C Str.empty = true
 hd : PySem.W.hasDictIn K C = true
 po : PySem.W.plainOver K C = true
 sa : zP K (.ref C) "__setattr__" = some (some (.builtin "object.__setattr__"))
theorem Cls.get {K : PySem.W.Frag} {C : Addr} (c : Cls K C) (f : Str) : yb K C f = true := c.pg
def NoAttr (K : PySem.W.Frag) (C : Addr) (f : Str) : Prop := zP K (.ref C) f = some none
theorem NoAttr.taker {K : PySem.W.Frag} {C : Addr} {f : Str} (n : NoAttr K C f) : PySem.W.takerIn K C f = some none := by
 unfold PySem.W.takerIn
 rw [show zP K (.ref C) f = some none from n]
 rfl
structure Meth (K : PySem.W.Frag) (C : Addr) (m : Str) (f : Addr) : Prop where
 at_ : zP K (.ref C) m = some (some (.ref f))
 fn : zn K (.ref f) = true
 kp : zI K (.ref f) = true
section
variable {X : Cx} {pins : List (Addr × Obj)} {σ : St} {H : Hp} {s : Shared} {a C dx : Addr} {fs : List (Str × V)} {f : Str} {v : V} {A : Around} {E : Value -> Shared -> Prop}
theorem getattr_ok {b : Bool} {Q : Value -> Shared -> Prop} (I : Inv X pins σ H s) (e : H a = some (.ins C dx fs)) (c : Cls X.K C) (n : NoAttr X.K C f) (l : fs.lookup f = some v)
  (h : ∀ u s', Inv X pins σ H s' -> RelV v u -> Q u s') : wpAny (model X.prog X.w) A (getAttr (.ref a) f b) Q E s := by
 obtain ⟨mA, O, r, _, _, _⟩ := ins_get I.hok e
 obtain ⟨u, hu, ru⟩ := RelO.some_of (v := v) (o := mA f) (by rw [<- l]; exact r f)
 exact get_map I.kIn O (c.get f) c.hd n hu (handed_of ru) (h u _ (I.tok _) ru)
theorem getmeth_ok {m : Str} {g : Addr} {pl : Sem Bool} {Q : Value × List Value -> Shared -> Prop} (I : Inv X pins σ H s) (e : H a = some (.ins C dx fs)) (c : Cls X.K C) (k : Meth X.K C m g) (l : fs.lookup m = none)
  (h : Q (.ref g, [.ref a]) s) : wpAny (model X.prog X.w) A (getMethod (.ref a) m pl) Q E s := by
 obtain ⟨mA, O, r, _, _, _⟩ := ins_get I.hok e
 have hn : mA m = none := RelO.none_of (by rw [<- l]; exact r m)
 exact get_meth I.kIn O (c.get m) k.at_ k.fn hn h
theorem setattr_ok {y : V} {u : Value} {Q : Unit -> Shared -> Prop} (I : Inv X pins σ H s) (e : H a = some (.ins C dx fs)) (c : Cls X.K C) (n : NoAttr X.K C f) (hl : fs.length < 1000) (ry : RelV y u)
  (h : ∀ s', Inv X pins σ (upd H a (.ins C dx (putF f y fs))) s' -> Q () s') : wpAny (model X.prog X.w) A (setAttr (.ref a) f u) Q E s := by
 obtain ⟨mA, O, r, wi, _, ho⟩ := ins_get I.hok e
 have hz : (fs.map (·.1)).length <= sizeLine := by rw [zA, sizeLine_eq]; omega
 refine set_map I.kIn O c.sa c.po n.taker c.hd wi hz fun h' O' sb => h _ ?_
 have hd : ∃ o, h'.get? dx = some o := let ⟨o, _, _, e', _⟩ := O'.ns; ⟨o, e'⟩
 refine I.write (x := a) (e := dx) (by rw [e]; exact True.intro) (.inr ho) (fun b q hb z => (sb.2 b hb).trans z) hd ?_
 refine ⟨by rw [yy O.ne]; exact ho, ?_, O.ne, O'.obj, _, O'.ns, fun g => ?_, fun g hg => ?_⟩
 ·have := length_putF f y fs; omega
 ·show RelO ((putF f y fs).lookup g) (if g = f then some u else mA g)
  rw [lookup_putF]
  by_cases q : g = f
  ·rw [if_pos q, if_pos q]; exact ry
  ·rw [if_neg q, if_neg q]; exact r g
 ·by_cases q : g = f
  ·rw [q]; exact (keys_putF f y fs).1
  ·refine (keys_putF f y fs).2 g (wi g fun z => hg ?_)
   show (if g = f then some u else mA g) = none
   rw [if_neg q]; exact z
theorem Inv.made (I : Inv X pins σ H s) : Inv X pins σ (upd (upd H s.heap.objs.size (.own (s.heap.objs.size + 1))) (s.heap.objs.size + 1) (.ins C s.heap.objs.size []))
  { s with heap := (s.heap.push zv).push (yG C s.heap.objs.size) } := by
 have e1 : (s.heap.push zv).get? s.heap.objs.size = some zv := Heap.get?_push_size s.heap rfl
 have e2 : ((s.heap.push zv).push (yG C s.heap.objs.size)).get? (s.heap.objs.size + 1) = some (yG C s.heap.objs.size) := by
  have := Heap.get?_push_size (s.heap.push zv) (o := yG C s.heap.objs.size) rfl
  rwa [Heap.size_push] at this
 have e3 : (s.heap.push zv).Ns s.heap.objs.size (fun _ => none) := ⟨zv, #[], _, e1, rfl, (fun e he => absurd he (by simp)), fun _ => rfl⟩
 have I1 := I.laid (a := s.heap.objs.size) (o := .own (s.heap.objs.size + 1)) (h' := s.heap.push zv) (t' := s.toks) (fun b u q => Heap.get?_push_of_some _ q) (zG _) ⟨_, e1⟩
 refine I1.laid (a := s.heap.objs.size + 1) (o := .ins C s.heap.objs.size []) (t' := s.toks) (fun b u q => Heap.get?_push_of_some _ q) (Nat.le_of_eq (Heap.size_push _ _)) ?_
 have ne : s.heap.objs.size ≠ s.heap.objs.size + 1 := zV (yc _)
 refine ⟨by rw [yy ne, yn], zb _, ne, e2, fun _ => none, (Heap.Ns1.of_empty e3).at fun o q => Heap.get?_push_of_some _ q, fun _ => True.intro, fun y hy => absurd rfl hy⟩
theorem attr_of {prog : Program} {w : World} {env : Env} {e : Expr} {f : Str} {pos : Pos} {s : Shared} {Q : Value -> Shared -> Prop} (hb : attributeBase e f env (eval e env) = eval e env)
  (h : wpAny (model prog w) A (eval e env) (fun o s₁ => wpAny (model prog w) A (getAttr o f true) Q E s₁) E s) : wpAny (model prog w) A (eval (.Attribute e f pos) env) Q E s :=
 Attribute_any_ h (by rw [arm_eval_Attribute, hb])
end
def tFld (K : PySem.W.Frag) (ta : TE) (f : Str) : TE := fun σ H Q => ta σ H fun x H1 => ∃ a C dx fs v, x = .ref a /\ H1 a = some (.ins C dx fs) /\ Cls K C /\ NoAttr K C f /\ fs.lookup f = some v /\ Q v H1
def sFld (K : PySem.W.Frag) (ta tv : TE) (f : Str) : TS := fun D σ H => tv σ H fun y H1 => ta σ H1 fun x H2 => ∃ a C dx fs, x = .ref a /\ H2 a = some (.ins C dx fs) /\ Cls K C /\ NoAttr K C f /\ fs.length < 1000 /\
 D.nx σ (upd H2 a (.ins C dx (putF f y fs)))
section
variable {X : Cx} {o e value : Expr} {f : Str} {pos pos' tpos : Pos} {ta tv : TE}
theorem xQ (he : PE X e ta) (hb : attributeBase e f X.env (eval e X.env) = eval e X.env) : PE X (.Attribute e f pos) (tFld X.K ta f) := by
 intro pins s σ H Q I h
 refine attr_of hb (thn (he pins s σ H _ I h) fun u s1 ⟨x, H1, I1, rx, a, C, dx, fs, v, ex, ea, c, n, l, q⟩ => ?_)
 subst ex
 obtain rfl : u = Value.ref a := rx
 exact getattr_ok I1 ea c n l fun u' s2 I2 ru => ⟨v, H1, I2, ru, q⟩
theorem ps_fld (ha : PE X o ta) (hv : PE X value tv) (hs : swapsWith value (some (.Attribute o f pos')) pos.line X.env = pure false) : PS X (.Assign [.Attribute o f pos'] value pos) (sFld X.K ta tv f) := by
 intro pins s σ H D I h
 refine plainObj_wpAny_Assign_Attribute (thn (hv pins s σ H _ I h) fun u s1 ⟨y, H1, I1, ry, q⟩ => thn (ha pins s1 σ H1 _ I1 q) fun ov s2 ⟨x, H2, I2, rx, a, C, dx, fs, ex, ea, c, n, l, q2⟩ => ?_) hs
 subst ex
 obtain rfl : ov = Value.ref a := rx
 exact setattr_ok I2 ea c n l ry fun s3 I3 => ⟨σ, _, I3, q2⟩
end
section
variable {X : Cx} {pins : List (Addr × Obj)} {σ : St} {H : Hp} {s : Shared} {A : Around} {E : Value -> Shared -> Prop} {Q : Value -> Shared -> Prop} {c : Value} {b : Bool}
inductive TyOf (K : PySem.W.Frag) (H : Hp) : V -> Value -> Prop where
 | non : TyOf K H .non (.type "NoneType")
 | bl (x : Bool) : TyOf K H (.bl x) (.type "bool")
 | int (i : Int) : TyOf K H (.int i) (.type "int")
 | str (x : Str) : TyOf K H (.str x) (.type "str")
 | flt (x : UInt64) : TyOf K H (.flt x) (.type "float")
 | lst {a : Addr} {xs : List V} (e : H a = some (.lst xs)) : TyOf K H (.ref a) (.type "list")
 | frz {a : Addr} {o : Obj} {xs : List V} (e : H a = some (.frz o (.lst xs))) : TyOf K H (.ref a) (.type "list")
 | tup {a : Addr} {xs : List V} (e : H a = some (.tup xs)) : TyOf K H (.ref a) (.type "tuple")
 | dK {a : Addr} {kvs : List (Key × V)} (e : H a = some (.dK kvs)) : TyOf K H (.ref a) (.type "dict")
 | dT {a : Addr} {kvs : List (List Key × V)} (e : H a = some (.dT kvs)) : TyOf K H (.ref a) (.type "dict")
 | ins {a C dx : Addr} {fs : List (Str × V)} (e : H a = some (.ins C dx fs)) (cl : Cls K C) (ha : zP K (.ref C) "__class__" = some (some (.builtin "object.__class__")))
   (hn : PySem.W.specialIn K (.builtin "object.__class__") "__get__" = some (some (.builtin "getset_descriptor.__get__"))) (htk : PySem.W.takesIn K (.builtin "object.__class__") = some true)
   (hm : yk K C (.type "object") = some true) : TyOf K H (.ref a) (.ref C)
theorem isinst_ok {x : V} {u t : Value} (I : Inv X pins σ H s) (rx : RelV x u) (ty : TyOf X.K H x t) (e : yQ X.K t c = some b) (h : ∀ tk, Q (.bool b) { s with toks := tk }) :
  wpAny (model X.prog X.w) A (call (.builtin "isinstance") [u, c]) Q E s := by
 cases ty with
 | non => cases (show u = Value.none from rx); exact zi PySem.W.kitx_none I.kIn True.intro e (fun z => nomatch z) h
 | bl y => cases (show u = Value.bool y from rx); exact zi PySem.W.kitx_bool I.kIn True.intro e (fun z => nomatch z) h
 | int i => obtain ⟨t, q⟩ := (show ∃ t, u = Value.int i t from rx); cases q; exact zi PySem.W.kitx_int I.kIn True.intro e (fun z => nomatch z) h
 | str y => obtain ⟨t, q⟩ := (show ∃ t, u = Value.str y t from rx); cases q; exact zi PySem.W.kitx_str I.kIn True.intro e (fun z => nomatch z) h
 | flt y => obtain ⟨t, q⟩ := (show ∃ t, u = Value.float y t from rx); cases q; exact zi PySem.W.kitx_float I.kIn True.intro e (fun z => nomatch z) h
 | @lst a xs ea =>
  cases (show u = Value.ref a from rx)
  obtain ⟨_, _, n, _, h1⟩ := (show ObjOk X.prog X.w H s.heap a (.lst xs) from I.hok a _ ea)
  exact zi PySem.W.kitx_list I.kIn ⟨_, h1, rfl⟩ e (fun z => nomatch z) h
 | @frz a ob xs ea =>
  cases (show u = Value.ref a from rx)
  obtain ⟨_, _, _, n, _, h1⟩ := (show ObjOk X.prog X.w H s.heap a (.frz ob (.lst xs)) from I.hok a _ ea)
  exact zi PySem.W.kitx_list I.kIn ⟨_, h1, rfl⟩ e (fun z => nomatch z) h
 | @tup a xs ea =>
  cases (show u = Value.ref a from rx)
  obtain ⟨_, _, _, p⟩ := (show ObjOk X.prog X.w H s.heap a (.tup xs) from I.hok a _ ea)
  obtain ⟨o, h1, h2, _⟩ := p
  exact zi PySem.W.kitx_tuple I.kIn ⟨o, h1, h2⟩ e (fun z => nomatch z) h
 | @dK a kvs ea =>
  cases (show u = Value.ref a from rx)
  obtain ⟨_, _, vs, _, p⟩ := (show ObjOk X.prog X.w H s.heap a (.dK kvs) from I.hok a _ ea)
  obtain ⟨o, es, ep, h1, h2, _⟩ := p
  exact zi PySem.W.kitx_dict I.kIn ⟨o, h1, h2.1⟩ e (fun z => nomatch z) h
 | @dT a kvs ea =>
  cases (show u = Value.ref a from rx)
  obtain ⟨_, _, xs, _, o, es, ep, h1, h2, _⟩ := (show ObjOk X.prog X.w H s.heap a (.dT kvs) from I.hok a _ ea)
  exact zi PySem.W.kitx_dict I.kIn ⟨o, h1, h2.1⟩ e (fun z => nomatch z) h
 | @ins a C dx fs ea cl ha hn htk hm =>
  cases (show u = Value.ref a from rx)
  obtain ⟨mA, O, _⟩ := ins_get I.hok ea
  obtain ⟨od, J, _⟩ := O.look
  exact zi (PySem.W.kitx_own (cl.get _) cl.hd ha hn htk hm) I.kIn J e (fun z => nomatch z) h
end
end L2
namespace L2
open PySem PySem.Spec PyProof.Rows
structure Room (k : Nat) (A : Around) : Prop where
 hd : A.handled = none
 dp : A.depth + 3 * k + 5 < recursionLimit
 un : A.units + 16 * k + 200 < cLine
theorem Room.mono {j k : Nat} {A : Around} (r : Room k A) (h : j <= k) : Room j A := ⟨r.hd, by have := r.dp; omega, by have := r.un; omega⟩
theorem Room.deeper {k : Nat} {A : Around} (r : Room (k + 1) A) (env : Env) : Room k (A.deeper env) :=
 ⟨r.hd, by have := r.dp; show A.depth + 1 + 3 * k + 5 < _; omega, by have := r.un; show A.units + 3 + 16 * k + 200 < _; omega⟩
theorem make_depth {A : Around} {C : Addr} {us : List Value} {kw : List (Str × Value)} : (A.under (.builtin "type.__call__" ⟨.ref C :: us, kw⟩)).depth = A.depth + 1 := by
 first | rfl | simp [Around.under, Code.weight, Code.isCreation, Code.isGuard, Code.isCaller, Code.frames, Code.isFrame, guardIds]
theorem make_units {A : Around} {C : Addr} {us : List Value} {kw : List (Str × Value)} : (A.under (.builtin "type.__call__" ⟨.ref C :: us, kw⟩)).units = A.units + 1 := by
 first | rfl | simp [Around.under, Code.cUnits, Code.frames, Code.isFrame]
theorem Room.make {k : Nat} {A : Around} (r : Room (k + 1) A) (C : Addr) (us : List Value) (kw : List (Str × Value)) : Room k (A.under (.builtin "type.__call__" ⟨.ref C :: us, kw⟩)) :=
 ⟨r.hd, by have := r.dp; rw [make_depth]; omega, by have := r.un; rw [make_units]; omega⟩
theorem Room.depth {k : Nat} {A : Around} (r : Room k A) : A.depth < recursionLimit := by have := r.dp; omega
theorem Room.units {k : Nat} {A : Around} (r : Room k A) : A.units + 64 < cLine := by have := r.un; omega
def tNil : TA := fun _ H Q => Q [] H
def tCons (ta : TE) (tr : TA) : TA := fun σ H Q => ta σ H fun x H1 => tr σ H1 fun xs H2 => Q (x :: xs) H2
section
variable {X : Cx} {e : Expr} {es : List Expr} {te : TE} {t : TA} {pos : Pos}
theorem wB : PA X [] tNil := fun _ _ _ _ H Q I h => Calls.spliced_nil ⟨[], H, I, .nil, h⟩
theorem pa_cons (ha : PE X e te) (hr : PA X es t) (hs : starEach (e :: es) X.env = (false, eval e X.env) :: starEach es X.env := by rfl) : PA X (e :: es) (tCons te t) := by
 intro pos pins s σ H Q I h
 rw [hs]
 show wpAny _ _ (spliced ((false, eval e X.env) :: backTo pos (starEach es X.env))) _ _ s
 refine Calls.spliced_cons (thn (ha pins s σ H _ I h) fun u s1 ⟨x, H1, I1, r1, q1⟩ => ?_)
 exact thn (hr pos pins s1 σ H1 _ I1 q1) fun us s2 ⟨xs, H2, I2, r2, q2⟩ => ⟨x :: xs, H2, I2, .cons r1 r2, q2⟩
def tTup (t : TA) : TE := fun σ H Q => t σ H fun xs H1 => xs.length <= sizeLine /\ ∀ p, H1 p = none -> Q (.ref p) (upd H1 p (.tup xs))
def tLst (t : TA) : TE := fun σ H Q => t σ H fun xs H1 => xs.length <= sizeLine /\ ∀ p, H1 p = none -> Q (.ref p) (upd H1 p (.lst xs))
theorem xq {x1} (h : PA X es t) : PE X (.Tuple es x1 pos) (tTup t) := by
 intro pins s σ H Q I hq
 refine wpAny_Tuple_spliced (thn (h pos pins s σ H _ I hq) fun us s1 ⟨xs, H1, I1, r, z, q⟩ => ⟨by rw [<- r.length]; exact z, ?_⟩)
 have hf : H1 s1.heap.objs.size = none := I1.hok.fresh (zG _)
 refine ⟨.ref s1.heap.objs.size, upd H1 s1.heap.objs.size (.tup xs), I1.laid (t' := s1.toks) (fun b u e => Heap.get?_push_of_some _ e) (zG _) ?_, rfl, q _ hf⟩
 exact ⟨z, us, r, ⟨_, Heap.get?_push_size _ rfl, rfl, _, rfl⟩⟩
theorem xS (h : PA X es t) : PE X (.List es pos) (tLst t) := by
 intro pins s σ H Q I hq
 refine wpAny_List_spliced (thn (h pos pins s σ H _ I hq) fun us s1 ⟨xs, H1, I1, r, z, q⟩ => ⟨by rw [<- r.length]; exact z, ?_⟩)
 have hf : H1 s1.heap.objs.size = none := I1.hok.fresh (zG _)
 refine ⟨.ref s1.heap.objs.size, upd H1 s1.heap.objs.size (.lst xs), I1.laid (t' := s1.toks) (fun b u e => Heap.get?_push_of_some _ e) (zG _) ?_, rfl, q _ hf⟩
 exact ⟨z, us, 0, r, Heap.get?_push_size _ rfl⟩
end
abbrev Sp := List V -> Hp -> VK -> XK -> Prop
abbrev CXT := List Env -> Hp -> Shared -> XK -> Value -> Shared -> Prop
structure Env0 (P : Program) (w : World) (K : PySem.W.Frag) (mg : Str -> Option Value) (base : Heap) (A : Around) (outer : List Env) (s : Shared) (H : Hp) : Prop where
 frames : A.frames = some outer
 mod : Mod K mg base
 bs : ∀ b o, base.get? b = some o -> s.heap.get? b = some o /\ H b = none
 bsz : base.objs.size <= s.heap.objs.size
 funs : s.heap.FunFrames base outer
 frf : ∀ b ∈ frs outer, H b = none
 hok : HOk P w H s.heap
 bare : AllBare s.gens
def CE (outer : List Env) (P : Program) (w : World) (H : Hp) (s : Shared) (Q : VK) (u : Value) (s' : Shared) : Prop :=
 ∃ v H', s'.os = s.os /\ AllBare s'.gens /\ Un (frs outer) [] H H' s.heap s'.heap /\ HOk P w H' s'.heap /\ RelV v u /\ Q v H'
def CR (CX : CXT) (outer : List Env) (P : Program) (w : World) (H : Hp) (s : Shared) (Q : VK) (E : XK) (r : Result) (s' : Shared) : Prop :=
 match r with
 | .ok (.ret u) => CE outer P w H s Q u s'
 | .ok _ => False
 | .error e => CX outer H s E e s'
structure FnOk (P : Program) (w : World) (K : PySem.W.Frag) (mg : Str -> Option Value) (base : Heap) (CX : CXT) (k : Nat) (f : Addr) (fd : FuncData) (ps : List Str) (sp : Sp) : Prop where
 len : ∀ vs H Q E, sp vs H Q E -> vs.length = ps.length
 run : ∀ (A : Around) (outer : List Env) (s : Shared) (H : Hp) (args : Args) (us : List Value) (vs : List V) (Q : VK) (E : XK), Room k A -> Env0 P w K mg base A outer s H -> BindsTo s fd args (ps.zip us) -> Vals vs us -> sp vs H Q E ->
  codeAny (model P w) A (.call (.ref f) args) (CR CX outer P w H s Q E) s
theorem Env0.make {P : Program} {w : World} {K : PySem.W.Frag} {mg : Str -> Option Value} {base : Heap} {A : Around} {outer : List Env} {s : Shared} {H : Hp} (e : Env0 P w K mg base A outer s H) (C : Addr) (us : List Value) (kw : List (Str × Value)) :
  Env0 P w K mg base (A.under (.builtin "type.__call__" ⟨.ref C :: us, kw⟩)) outer s H := ⟨by first | exact e.frames | (simpa [Around.under, Code.envs, Code.isFrame, pushEnvs] using e.frames), e.mod, e.bs, e.bsz, e.funs, e.frf, e.hok, e.bare⟩
section
variable {X : Cx} {pins : List (Addr × Obj)} {σ : St} {H : Hp} {s s' : Shared}
theorem Inv.env0 (I : Inv X pins σ H s) : Env0 X.prog X.w X.K X.mg X.base X.A X.stack s H :=
 ⟨I.ok.frames, I.ok.mod, I.bs, ze I.ok.bsz I.sz, I.stack, I.stkFree, I.hok, I.bare⟩
theorem Inv.after {Q : VK} {u : Value} (I : Inv X pins σ H s) (h : CE X.stack X.prog X.w H s Q u s') : EP X pins σ Q u s' := by
 obtain ⟨v, H', os, bare, un, hok, r, q⟩ := h
 obtain ⟨hh, g, d, t, os'⟩ := s'
 obtain rfl : os' = s.os := os
 exact ⟨v, H', I.call (h' := hh) (g' := g) (d' := d) (t' := t) (ch := []) un hok bare (fun b z => absurd z (by simp)), r, q⟩
end
def tCall (sp : Sp) (dvs : List V) (E : XK) (t : TA) : TE := fun σ H Q => t σ H fun vs H1 => sp (vs ++ dvs) H1 Q E
def tMeth (C : Addr) (m : Str) (sp : Sp) (dvs : List V) (E : XK) (ta : TE) (t : TA) : TE := fun σ H Q => ta σ H fun x H1 => ∃ a dx fs, x = .ref a /\ H1 a = some (.ins C dx fs) /\ fs.lookup m = none /\
 t σ H1 fun vs H2 => sp (x :: (vs ++ dvs)) H2 Q E
def tMake (C : Addr) (sp : Sp) (dvs : List V) (E : XK) (t : TA) : TE := fun σ H Q => t σ H fun vs H1 => ∀ x dx, H1 x = none -> H1 dx = none -> dx ≠ x ->
 sp (.ref x :: (vs ++ dvs)) (upd (upd H1 dx (.own x)) x (.ins C dx [])) (fun v H2 => v = .non /\ Q (.ref x) H2) E
def Binds (K : PySem.W.Frag) (fd : FuncData) (ps : List Str) (ds : List Value) : Prop :=
 ∀ (s : Shared) (us : List Value), K.In s.heap -> (us ++ ds).length = ps.length -> BindsTo s fd ⟨us, []⟩ (ps.zip (us ++ ds))
theorem Binds.all {K : PySem.W.Frag} {fd : FuncData} {ps : List Str} (h : ∀ us : List Value, us.length = ps.length -> bindArgs fd ⟨us, []⟩ = pure (ps.zip us)) : Binds K fd ps [] := fun s us _ hl => by
 rw [zy] at hl ⊢
 exact .of_eq (h us hl)
def Passes (CX : CXT) (X : Cx) (E : XK) : Prop := ∀ (pins : List (Addr × Obj)) (σ : St) (H : Hp) (s : Shared) (e : Value) (s' : Shared), Inv X pins σ H s -> CX X.stack H s E e s' -> X.xe e s'
section
variable {X : Cx} {CX : CXT} {k : Nat} {f C : Addr} {fd : FuncData} {ps : List Str} {sp : Sp} {dvs : List V} {ds : List Value} {E : XK} {x m : Str} {p pos apos : Pos} {e o : Expr} {es : List Expr} {ta : TE} {t : TA}
theorem run_fn {pins : List (Addr × Obj)} {σ : St} {H : Hp} {s : Shared} {Q : VK} {us : List Value} {vs : List V} (F : FnOk X.prog X.w X.K X.mg X.base CX k f fd ps sp) (hr : Room k X.A) (hb : Binds X.K fd ps ds) (hd : Vals dvs ds) (hx : Passes CX X E)
  (I : Inv X pins σ H s) (r : Vals vs us) (h : sp (vs ++ dvs) H Q E) : wpAny (model X.prog X.w) X.A (call (.ref f) us) (EP X pins σ Q) X.xe s := by
 have r2 : Vals (vs ++ dvs) (us ++ ds) := r.append hd
 have hl : (us ++ ds).length = ps.length := by rw [<- r2.length]; exact F.len _ _ _ _ h
 refine wpAny_call (codeAny_mono (F.run X.A X.stack s H ⟨us, []⟩ (us ++ ds) (vs ++ dvs) Q E hr I.env0 (hb s us I.kIn hl) r2 h) fun r s' hq => ?_)
 cases r with
 | error e => exact hx pins σ H s e s' I hq
 | ok fl =>
  cases fl with
  | ret u => exact I.after hq
  | next => exact False.elim hq
  | brk => exact False.elim hq
  | cont => exact False.elim hq
theorem yx (F : FnOk X.prog X.w X.K X.mg X.base CX k f fd ps sp) (hr : Room k X.A) (hg : Gl X x) (hm : X.mg x = some (.ref f)) (hk : zI X.K (.ref f) = true) (hb : Binds X.K fd ps ds) (hd : Vals dvs ds) (hx : Passes CX X E)
  (ha : PA X (e :: es) t) (hdb : (x == ("__debug__" : Str)) = false := by decide) (he : starEach (e :: es) X.env = (false, eval e X.env) :: starEach es X.env := by rfl) (hpl : (backTo pos (starEach es X.env)).any (·.1) = false := by rfl) :
  PE X (.Call (.Name x p) (e :: es) [] pos) (tCall sp dvs E t) := by
 intro pins s σ H Q I h
 refine wpAny_Call_Name_kw (ld_glob I hg hm ?_ hdb)
 refine PySem.W.callWith_K (h₀ := X.base) I.ok.mod.kin hk (thn (ha pos pins s σ H _ I h) fun us s1 ⟨vs, H1, I1, r, q⟩ => ⟨I1.kIn, ?_⟩) he hpl
 exact run_fn F hr hb hd hx I1 r q
theorem xa {pl : Sem Bool} (he : PE X o ta) (c : Cls X.K C) (hm : Meth X.K C m f) (F : FnOk X.prog X.w X.K X.mg X.base CX k f fd ps sp) (hr : Room k X.A) (hb : Binds X.K fd ps ds) (hd : Vals dvs ds) (hx : Passes CX X E) (ha : PA X (e :: es) t)
  (hst : starEach (e :: es) X.env = (false, eval e X.env) :: starEach es X.env := by rfl) (hpl : (backTo pos (starEach es X.env)).any (·.1) = false := by rfl)
  (ht : eval (.Call (.Attribute o m apos) (e :: es) [] pos) X.env = (do
   let ov <- eval o X.env
   standAt apos.atName
   let (f, first) <- holding [ov] (getMethod ov m pl)
   callWith pos f first (backTo pos (starEach (e :: es) X.env)) (backToKw pos (keywordEach [] X.env))) := by rfl) :
  PE X (.Call (.Attribute o m apos) (e :: es) [] pos) (tMeth C m sp dvs E ta t) := by
 intro pins s σ H Q I h
 refine PySem.W.methodCall_KW (pl := pl) (thn (he pins s σ H _ I h) fun u s1 ⟨x, H1, I1, rx, a, dx, fs, ex, ea, l, q⟩ => ?_) ht
 subst ex
 obtain rfl : u = Value.ref a := rx
 refine getmeth_ok I1 ea c hm l ?_
 refine PySem.W.callWith_K (first := [.ref a]) (h₀ := X.base) I.ok.mod.kin hm.kp (thn (ha pos pins s1 σ H1 _ I1 q) fun us s2 ⟨vs, H2, I2, r, q2⟩ => ⟨I2.kIn, ?_⟩) hst hpl
 exact run_fn (us := .ref a :: us) (vs := .ref a :: vs) F hr hb hd hx I2 (.cons rfl r) q2
theorem pe_meth0 {pl : Sem Bool} (he : PE X o ta) (c : Cls X.K C) (hm : Meth X.K C m f) (F : FnOk X.prog X.w X.K X.mg X.base CX k f fd ps sp) (hr : Room k X.A) (hb : Binds X.K fd ps ds) (hd : Vals dvs ds) (hx : Passes CX X E)
  (ht : eval (.Call (.Attribute o m apos) [] [] pos) X.env = (do
   let ov <- eval o X.env
   standAt apos.atName
   let (f, first) <- holding [ov] (getMethod ov m pl)
   callWith pos f first (backTo pos (starEach [] X.env)) (backToKw pos (keywordEach [] X.env))) := by rfl) :
  PE X (.Call (.Attribute o m apos) [] [] pos) (tMeth C m sp dvs E ta tNil) := by
 intro pins s σ H Q I h
 refine PySem.W.methodCall_KW (pl := pl) (thn (he pins s σ H _ I h) fun u s1 ⟨x, H1, I1, rx, a, dx, fs, ex, ea, l, q⟩ => ?_) ht
 subst ex
 obtain rfl : u = Value.ref a := rx
 refine getmeth_ok I1 ea c hm l ?_
 exact PySem.W.callWith_K0 (first := [.ref a]) I1.kIn hm.kp (run_fn (us := [.ref a]) (vs := [.ref a]) F hr hb hd hx I1 (.cons rfl .nil) q)
structure Mk (K : PySem.W.Frag) (C f : Addr) : Prop where
 makes : PySem.W.makesIn K C = true
 init : zP K (.ref C) "__init__" = some (some (.ref f))
 fn : zn K (.ref f) = true
 kp : zI K (.ref C) = true
theorem run_make {pins : List (Addr × Obj)} {σ : St} {H : Hp} {s : Shared} {Q : VK} {us : List Value} {vs : List V} (M : Mk X.K C f) (F : FnOk X.prog X.w X.K X.mg X.base CX k f fd ps sp) (hr : Room (k + 1) X.A) (hb : Binds X.K fd ps ds) (hd : Vals dvs ds)
  (hx : Passes CX X E) (I : Inv X pins σ H s) (r : Vals vs us)
  (h : ∀ x dx, H x = none -> H dx = none -> dx ≠ x -> sp (.ref x :: (vs ++ dvs)) (upd (upd H dx (.own x)) x (.ins C dx [])) (fun v H2 => v = .non /\ Q (.ref x) H2) E) :
  wpAny (model X.prog X.w) X.A (call (.ref C) us) (EP X pins σ Q) X.xe s := by
 have hq := h (s.heap.objs.size + 1) s.heap.objs.size (I.hok.fresh (yM _)) (I.hok.fresh (zG _)) (zV (yc _))
 have I2 := Inv.made (C := C) I
 have r2 : Vals (V.ref (s.heap.objs.size + 1) :: (vs ++ dvs)) (Value.ref (s.heap.objs.size + 1) :: (us ++ ds)) := .cons rfl (r.append hd)
 have hl : (Value.ref (s.heap.objs.size + 1) :: us ++ ds).length = ps.length := by
  have e := r2.length
  rw [F.len _ _ _ _ hq] at e
  exact e.symm
 refine wpAny_call (make_map (f := f) I.kIn M.makes M.init (beq_iff_eq.mp M.fn) (codeAny_mono (F.run _ X.stack _ _ ⟨Value.ref (s.heap.objs.size + 1) :: us, []⟩ (Value.ref (s.heap.objs.size + 1) :: (us ++ ds)) _ _ E (hr.make C us [])
  (I2.env0.make C us []) (hb _ (Value.ref (s.heap.objs.size + 1) :: us) I2.kIn hl) r2 hq) fun r s' hq' => ?_))
 cases r with
 | error e => exact hx pins σ _ _ e s' I2 hq'
 | ok fl =>
  cases fl with
  | ret u =>
   obtain ⟨v, H', I3, rv, ev, q3⟩ := I2.after hq'
   subst ev
   exact ⟨rv, ⟨V.ref (s.heap.objs.size + 1), H', I3, rfl, q3⟩⟩
  | next => exact False.elim hq'
  | brk => exact False.elim hq'
  | cont => exact False.elim hq'
theorem pe_make (M : Mk X.K C f) (F : FnOk X.prog X.w X.K X.mg X.base CX k f fd ps sp) (hr : Room (k + 1) X.A) (hg : Gl X x) (hm : X.mg x = some (.ref C)) (hb : Binds X.K fd ps ds) (hd : Vals dvs ds) (hx : Passes CX X E)
  (ha : PA X (e :: es) t) (hdb : (x == ("__debug__" : Str)) = false := by decide) (he : starEach (e :: es) X.env = (false, eval e X.env) :: starEach es X.env := by rfl) (hpl : (backTo pos (starEach es X.env)).any (·.1) = false := by rfl) :
  PE X (.Call (.Name x p) (e :: es) [] pos) (tMake C sp dvs E t) := by
 intro pins s σ H Q I h
 refine wpAny_Call_Name_kw (ld_glob I hg hm ?_ hdb)
 refine PySem.W.callWith_K (h₀ := X.base) I.ok.mod.kin M.kp (thn (ha pos pins s σ H _ I h) fun us s1 ⟨vs, H1, I1, r, q⟩ => ⟨I1.kIn, ?_⟩) he hpl
 exact run_make M F hr hb hd hx I1 r q
end
section
variable {X : Cx} {CX : CXT} {k : Nat} {f C : Addr} {fd : FuncData} {ps ks : List Str} {sp : Sp} {E : XK} {x m : Str} {p pos apos kpos : Pos} {e o : Expr} {es : List Expr} {kws : List Keyword} {te ta : TE} {t tk : TA} {nm : Option Str}
variable {g : List Value -> List Value -> List Value} {gV : List V -> List V -> List V}
end
structure FnScope (N P : List Str) (sc : Scope) : Prop where
 kind : sc.kind = .function
 co : sc.isCoroutine = false
 gen : sc.isGenerator = false
 nd : N.Nodup
 pre : N.take P.length = P
 par : ∀ x ∈ P, sc.names.lookup x = some .local \/ sc.names.lookup x = some .cell
 nofree : ∀ y ∈ sc.names, y.2 ≠ .free
theorem bindL_out {kindOf : Str -> Option NameKind} {x : Str} : ∀ {binds : List (Str × Value)} {m : Str -> Option Value}, (∀ v, (x, v) ∉ binds) -> bindL kindOf binds m x = m x
 | [], _, _ => rfl
 | (n, v) :: r, m, h => by
  unfold bindL
  rw [bindL_out fun w hw => h w (zh _ hw)]
  split
  ·have : x ≠ n := by rintro rfl; exact h v yU
   simp [this]
  ·rfl
theorem bindC_out {kindOf : Str -> Option NameKind} {x : Str} : ∀ {binds : List (Str × Value)} {m : Str -> Option Value}, (∀ v, (x, v) ∉ binds) -> bindC kindOf binds m x = m x
 | [], _, _ => rfl
 | (n, v) :: r, m, h => by
  unfold bindC
  rw [bindC_out fun w hw => h w (zh _ hw)]
  split
  ·rfl
  ·have : x ≠ n := by rintro rfl; exact h v yU
   simp [this]
theorem bindL_get {kindOf : Str -> Option NameKind} {x : Str} {v : Value} : ∀ {P : List Str} {vs : List Value} {i : Nat} {m : Str -> Option Value}, P.Nodup -> P[i]? = some x -> vs[i]? = some v -> kindOf x = some .local ->
  bindL kindOf (P.zip vs) m x = some v
 | [], _, _, _, _, h, _, _ => by simp at h
 | _ :: _, [], _, _, _, _, h, _ => by simp at h
 | p :: P, w :: vs, 0, m, nd, h1, h2, hk => by
  simp at h1 h2; subst h1; subst h2
  show bindL kindOf ((p, w) :: P.zip vs) m p = _
  unfold bindL
  rw [bindL_out fun v hv => (yV.mp nd).1 (List.of_mem_zip hv).1, if_pos hk]
  simp
 | p :: P, w :: vs, i + 1, m, nd, h1, h2, hk => by
  show bindL kindOf ((p, w) :: P.zip vs) m x = _
  unfold bindL
  exact bindL_get (i := i) (yV.mp nd).2 (by simpa using h1) (by simpa using h2) hk
theorem bindC_get {kindOf : Str -> Option NameKind} {x : Str} {v : Value} : ∀ {P : List Str} {vs : List Value} {i : Nat} {m : Str -> Option Value}, P.Nodup -> P[i]? = some x -> vs[i]? = some v -> kindOf x ≠ some .local ->
  bindC kindOf (P.zip vs) m x = some v
 | [], _, _, _, _, h, _, _ => by simp at h
 | _ :: _, [], _, _, _, _, h, _ => by simp at h
 | p :: P, w :: vs, 0, m, nd, h1, h2, hk => by
  simp at h1 h2; subst h1; subst h2
  show bindC kindOf ((p, w) :: P.zip vs) m p = _
  unfold bindC
  rw [bindC_out fun v hv => (yV.mp nd).1 (List.of_mem_zip hv).1, if_neg hk]
  simp
 | p :: P, w :: vs, i + 1, m, nd, h1, h2, hk => by
  show bindC kindOf ((p, w) :: P.zip vs) m x = _
  unfold bindC
  exact bindC_get (i := i) (yV.mp nd).2 (by simpa using h1) (by simpa using h2) hk
def start (N : List Str) (vs : List V) : St := vs.map some ++ List.replicate (N.length - vs.length) none
def cxOf (CX : CXT) (P : Program) (w : World) (K : PySem.W.Frag) (mg : Str -> Option Value) (base : Heap) (N : List Str) (qual : Str) (scope : Scope) (f : Addr) (cd : Value) (A : Around) (outer : List Env) (s : Shared) (H : Hp) (E : XK) : Cx where
 prog := P
 w := w
 K := K
 mg := mg
 base := base
 A := A.deeper (envOfC qual scope s.heap.objs.size f cd)
 N := N
 s₀ := s
 H₀ := H
 env := envOfC qual scope s.heap.objs.size f cd
 outer := outer
 stack := envOfC qual scope s.heap.objs.size f cd :: outer
 ex := []
 calm := true
 fn := fun _ => true
 pn := []
 xe := fun e s' => wpAny (model P w) (A.deeper (envOfC qual scope s.heap.objs.size f cd)) (leaving (envOfC qual scope s.heap.objs.size f cd) e) (fun _ s'' => CX outer H s E e s'') (fun e' s'' => CX outer H s E e' s'') s'
theorem cell_has {sc : Scope} {n : Nat} {x : Str} (h : sc.names.lookup x = some .cell) : ∃ c, (cellsFrom n sc.names []).lookup x = some c := by
 have q := PySem.W.cellsFrom_some sc.names n [] (.inl h)
 exact zx.mp q
theorem inv_start {CX : CXT} {P : Program} {w : World} {K : PySem.W.Frag} {mg : Str -> Option Value} {base : Heap} {N ps : List Str} {qual : Str} {scope : Scope} {f : Addr} {cd : Value} {A : Around} {outer : List Env} {s s1 : Shared} {H : Hp} {E : XK} {us : List Value} {vs : List V}
  (S : FnScope N ps scope) (hd : A.handled = none) (e0 : Env0 P w K mg base A outer s H) (hl : vs.length = ps.length) (r : Vals vs us)
  (x : InCallC s s.heap.objs.size (bindL (envOfC qual scope s.heap.objs.size f cd).kindOf (ps.zip us) fun _ => none) (cellsFrom (s.heap.objs.size + 1) scope.names []) (bindC (envOfC qual scope s.heap.objs.size f cd).kindOf (ps.zip us) fun _ => none) s1) :
  Inv (cxOf CX P w K mg base N qual scope f cd A outer s H E) [] (start N vs) H s1 := by
 have hpl : ps.length <= N.length := by have := congrArg List.length S.pre; rw [zq] at this; omega
 obtain ⟨h1, tk, rfl, hk⟩ := x.done
 have noA : ∀ b : Addr, b ∉ (cxOf CX P w K mg base N qual scope f cd A outer s H E).ex := fun b z => absurd (show b ∈ ([] : List Addr) from z) (by simp)
 refine ⟨⟨e0.mod, S.kind, rfl, rfl, zG _, fun y z c h1 h2 => ?_, fun y hy => ?_, fun y c _ h => ?_, fun _ => hd, Around.frames_deeper e0.frames, .inr ⟨rfl, rfl⟩, fun b z => absurd z (noA b), e0.bs, e0.bsz, fun b _ _ => noA b, fun b z => absurd z (noA b), e0.funs, e0.frf⟩,
  rfl, e0.bare, Un.kept hk, ⟨_, x.toInCall.ns, fun i y v h1 h2 h3 => ?_⟩, fun y c h => ⟨_, x.cell y c h⟩, e0.hok.fresh (zG _), fun y c h => ?_, fun p hp => absurd (show p ∈ ([] : List (Addr × Obj)) from hp) (by simp), e0.hok.kept hk, ?_⟩
 ·exact name_of_addr x.apart (zu h1) (zu h2)
 ·have hy : scope.names.lookup y = some .cell \/ scope.names.lookup y = some .free := hy
  rcases hy with hy | hy
  ·exact cell_has hy
  ·exact absurd rfl (S.nofree _ (zu hy))
 ·exact yZ (x.above y c (zu h))
 ·have hi : i < vs.length := by
   unfold start at h2
   by_cases hi : i < vs.length
   ·exact hi
   ·rw [zg (by simpa using hi)] at h2
    rw [List.getElem?_replicate] at h2
    split at h2 <;> cases h2
  have ha : vs[i]? = some v := by
   unfold start at h2
   rw [yB (by simpa using hi), zC] at h2
   cases e : vs[i]? with
   | none => rw [e] at h2; cases h2
   | some a => rw [e] at h2; cases h2; rfl
  obtain ⟨u, hu, rv⟩ := r.get ha
  have hp : ps[i]? = some y := by
   rw [<- S.pre, List.getElem?_take_of_lt (by omega)]; exact h1
  have ndP : ps.Nodup := by rw [<- S.pre]; exact S.nd.sublist (List.take_sublist _ _)
  refine ⟨u, rv, ?_⟩
  rcases S.par y (zD hp) with k | k
  ·exact .inl ⟨k, bindL_get ndP hp hu k⟩
  ·obtain ⟨c, e⟩ := cell_has (n := s.heap.objs.size + 1) k
   refine .inr ⟨.inl k, c, e, ?_⟩
   have q := x.cell y c e
   rw [bindC_get ndP hp hu (by show scope.names.lookup y ≠ _; rw [k]; decide)] at q
   exact q
 ·exact e0.hok.fresh (yZ (x.above y c (zu h)))
 ·unfold start
  show _ = N.length
  rw [zT, zA, List.length_replicate]
  omega
theorem fn_of {CX : CXT} {P : Program} {w : World} {K : PySem.W.Frag} {mg : Str -> Option Value} {base : Heap} {k : Nat} {f : Addr} {name qual : Str} {params : Arguments} {body : List Stmt} {scope : Scope} {dV kV doc pm cdv ct oc : Value} {an od : Option Addr}
  {osl : Array (Option Value)} {N ps : List Str} {sp : Sp} (lk : K.lookup f = some ⟨oc, od, .func (yj name qual params body scope dV kV doc pm an cdv ct), osl⟩) (hcd : PySem.W.codeIn K cdv qual = true) (S : FnScope N ps scope)
  (len : ∀ vs H Q E, sp vs H Q E -> vs.length = ps.length)
  (hbody : ∀ (A : Around) (outer : List Env) (s : Shared) (H : Hp) (vs : List V) (Q : VK) (E : XK), Room k (A.deeper (envOfC qual scope s.heap.objs.size f cdv)) -> sp vs H Q E ->
   ∃ t, PSs (cxOf CX P w K mg base N qual scope f cdv A outer s H E) body t /\ t { nx := fun _ H' => Q .non H', rt := Q } (start N vs) H) :
  FnOk P w K mg base CX (k + 1) f (yj name qual params body scope dV kV doc pm an cdv ct) ps sp := by
 refine ⟨len, fun A outer s H args us vs Q E hr e0 hb r hsp => ?_⟩
 have hl := len _ _ _ _ hsp
 have KX : K.In s.heap := e0.mod.kin.keeps fun b o e => (e0.bs b o e).1
 have lim : s.heap.NoLimit := e0.mod.nolimit.keeps fun b o e => (e0.bs b o e).1
 have hkind : ∀ y ∈ ps.zip us, scope.names.lookup y.1 = some .local \/ (scope.names.lookup y.1 = some .cell /\ ((cellsFrom (s.heap.objs.size + 1) scope.names []).lookup y.1).isSome = true) := fun ⟨n, v⟩ hy => by
  rcases S.par n (List.of_mem_zip hy).1 with q | q
  ·exact .inl q
  ·exact .inr ⟨q, PySem.W.cellsFrom_some _ _ _ (.inl q)⟩
 refine codeAny_call_function hr.depth (KX _ _ lk) rfl S.co S.gen rfl (PySem.W.codeRec_of KX hcd) (hb _ _ _ _ ?_)
 refine wpAny_newFunctionEnv_cells S.kind hkind fun env he s1 x => ?_
 subst he
 refine ⟨lim.keeps x.toInCall.keep, codeAny_func ?_⟩
 obtain ⟨t, ht, hq⟩ := hbody A outer s H vs Q E (hr.deeper _) hsp
 have I : Inv (cxOf CX P w K mg base N qual scope f cdv A outer s H E) [] (start N vs) H s1 := inv_start S hr.hd e0 hl r x
 refine wpAny_mono (ht [] s1 (start N vs) H _ I hq) (fun fl s' hs => ?_) fun e s' hs => hs
 have fin : ∀ {σ' : St} {H' : Hp} {v : V} {u : Value}, Inv (cxOf CX P w K mg base N qual scope f cdv A outer s H E) [] σ' H' s' -> RelV v u -> Q v H' -> CE outer P w H s Q u s' :=
  fun {σ' H' v u} J rv q => ⟨v, H', J.os, J.bare, J.base, J.hok, rv, q⟩
 cases fl with
 | ret u =>
  obtain ⟨v, σ', H', J, rv, q⟩ := hs
  exact fin J rv q
 | next =>
  obtain ⟨σ', H', J, q⟩ := hs
  exact fin (v := V.non) (u := Value.none) J rfl q
 | brk =>
  obtain ⟨_, _, _, q⟩ := hs
  exact False.elim q
 | cont =>
  obtain ⟨_, _, _, q⟩ := hs
  exact False.elim q
end L2
namespace L2
open PySem PySem.Spec PyProof.Rows
section
variable {X : Cx} {x : Str} {p pos : Pos} {e : Expr} {es : List Expr} {t : TA} {id T : String} {r : List V -> Hp -> VK -> Prop}
def tCB (r : List V -> Hp -> VK -> Prop) (t : TA) : TE := fun σ H Q => t σ H fun vs H1 => r vs H1 Q
theorem yz (hc : CallR X (.builtin id) r) (hg : Gl X x) (hm : X.mg x = none) (hv : bootBuiltins x = some (.builtin id)) (ha : PA X (e :: es) t) (hn : x ≠ "__name__" := by decide) (hdb : (x == ("__debug__" : Str)) = false := by decide)
  (he : starEach (e :: es) X.env = (false, eval e X.env) :: starEach es X.env := by rfl) (hpl : (backTo pos (starEach es X.env)).any (·.1) = false := by rfl) : PE X (.Call (.Name x p) (e :: es) [] pos) (tCB r t) := by
 intro pins s σ H Q I h
 refine wpAny_Call_Name_kw (ld_blt I hg hm hv ?_ hn hdb)
 exact PyProof.Rows.callWith_builtin1 (thn (ha pos pins s σ H _ I h) fun us s1 ⟨vs, H1, I1, r1, q1⟩ => hc pins s1 σ H1 vs us Q I1 r1 q1) he hpl
theorem pe_callTy (hc : CallR X (.type T) r) (hg : Gl X x) (hm : X.mg x = none) (hv : bootBuiltins x = some (.type T)) (ha : PA X (e :: es) t) (hn : x ≠ "__name__" := by decide) (hdb : (x == ("__debug__" : Str)) = false := by decide)
  (he : starEach (e :: es) X.env = (false, eval e X.env) :: starEach es X.env := by rfl) (hpl : (backTo pos (starEach es X.env)).any (·.1) = false := by rfl) : PE X (.Call (.Name x p) (e :: es) [] pos) (tCB r t) := by
 intro pins s σ H Q I h
 refine wpAny_Call_Name_kw (ld_blt I hg hm hv ?_ hn hdb)
 exact PyProof.Rows.callWith_type1 (thn (ha pos pins s σ H _ I h) fun us s1 ⟨vs, H1, I1, r1, q1⟩ => hc pins s1 σ H1 vs us Q I1 r1 q1) he hpl
end
end L2
namespace L2
open PySem PySem.Spec PyProof.Rows
section
variable {κ : Type} [DecidableEq κ]
def valV (kvs : List (κ × V)) (k : κ) : Option V := (kvs.find? fun kv => decide (kv.1 = k)).map (·.2)
def putK (kvs : List (κ × V)) (k : κ) (v : V) : List (κ × V) :=
 if (kvs.any fun kv => decide (kv.1 = k)) = true then kvs.map (fun kv => if kv.1 = k then (kv.1, v) else kv) else kvs ++ [(k, v)]
def dropK (kvs : List (κ × V)) (k : κ) : List (κ × V) := kvs.filter fun kv => decide (kv.1 ≠ k)
theorem xi {p : κ × V} {r : List (κ × V)} {k : κ} (e : p.1 = k) : valV (p :: r) k = some p.2 := by simp [valV, yW, e]
theorem xj {p : κ × V} {r : List (κ × V)} {k : κ} (e : ¬ p.1 = k) : valV (p :: r) k = valV r k := by simp [valV, yW, e]
theorem valV_any (k : κ) : ∀ kvs : List (κ × V), (kvs.any fun kv => decide (kv.1 = k)) = (valV kvs k).isSome
 | [] => rfl
 | p :: r => by
  rw [yg]
  by_cases e : p.1 = k
  ·simp only [xi e, decide_eq_true e, Bool.true_or, Option.isSome_some]
  ·rw [xj e, decide_eq_false e, Bool.false_or]; exact valV_any k r
theorem valV_map (k j : κ) (y : V) : ∀ kvs : List (κ × V), valV (kvs.map fun kv => if kv.1 = k then (kv.1, y) else kv) j = (valV kvs j).map fun x => if j = k then y else x
 | [] => rfl
 | p :: r => by
  have ih := valV_map k j y r
  rw [zc]
  by_cases h : p.1 = k
  ·rw [if_pos h]
   by_cases e : p.1 = j
   ·rw [xi (p := (p.1, y)) e, xi e, yA, if_pos (e.symm.trans h)]
   ·rw [xj (p := (p.1, y)) e, xj e, ih]
  ·rw [if_neg h]
   by_cases e : p.1 = j
   ·rw [xi (p := p) e, xi e, yA, if_neg (fun z => h (e.trans z))]
   ·rw [xj (p := p) e, xj e, ih]
theorem valV_snoc (k j : κ) (y : V) : ∀ kvs : List (κ × V), valV kvs k = none -> valV (kvs ++ [(k, y)]) j = if j = k then some y else valV kvs j
 | [], _ => by
  by_cases e : k = j
  ·rw [if_pos e.symm]; exact xi (p := (k, y)) e
  ·rw [if_neg (fun z => e z.symm)]; exact xj (p := (k, y)) e
 | p :: r, hn => by
  rw [List.cons_append]
  have hk : ¬ p.1 = k := fun z => by rw [xi z] at hn; cases hn
  rw [xj hk] at hn
  have ih := valV_snoc k j y r hn
  by_cases e : p.1 = j
  ·rw [xi e, xi e, if_neg (fun z => hk (e.trans z))]
  ·rw [xj e, xj e, ih]
theorem valV_put (kvs : List (κ × V)) (k j : κ) (y : V) : valV (putK kvs k y) j = if j = k then some y else valV kvs j := by
 unfold putK
 by_cases a : (kvs.any fun kv => decide (kv.1 = k)) = true
 ·rw [if_pos a, valV_map]
  rw [valV_any] at a
  by_cases e : j = k
  ·obtain ⟨x, hx⟩ := zx.mp a
   rw [if_pos e, e, hx, yA, if_pos rfl]
  ·rw [if_neg e]
   cases valV kvs j with
   | none => rfl
   | some x => rw [yA, if_neg e]
 ·rw [if_neg a]
  refine valV_snoc k j y kvs ?_
  rw [valV_any] at a
  cases q : valV kvs k with
  | none => rfl
  | some x => rw [q] at a; exact (a rfl).elim
theorem length_putK (kvs : List (κ × V)) (k : κ) (v : V) : (putK kvs k v).length <= kvs.length + 1 := by
 unfold putK
 split
 ·rw [zA]; omega
 ·rw [zT, zf, yK]; omega
theorem RelO.isSome_eq {o : Option V} {u : Option Value} (r : RelO o u) : o.isSome = u.isSome := by
 cases o with
 | none => cases u with
  | none => rfl
  | some _ => exact (show False from r).elim
 | some _ => cases u with
  | none => exact (show False from r).elim
  | some _ => rfl
theorem RelO.getD {o : Option V} {u : Option Value} {d : V} {d' : Value} (r : RelO o u) (rd : RelV d d') : RelV (o.getD d) (u.getD d') := by
 cases o with
 | none => cases u with
  | none => exact rd
  | some _ => exact (show False from r).elim
 | some _ => cases u with
  | none => exact (show False from r).elim
  | some _ => exact r
theorem KV.val {kvs : List (κ × V)} {vs : List (κ × Value)} (r : KV kvs vs) (k : κ) : RelO (valV kvs k) (valueAt vs k) := by
 unfold KV at r
 induction r with
 | nil => exact True.intro
 | @cons p q ps qs h t ih =>
  obtain ⟨h1, h2⟩ := h
  by_cases e : p.1 = k
  ·have e' : q.1 = k := h1.symm.trans e
   have b : valueAt (q :: qs) k = some q.2 := by simp [valueAt, yW, e']
   rw [xi e, b]; exact h2
  ·have e' : ¬ q.1 = k := fun z => e (h1.trans z)
   have b : valueAt (q :: qs) k = valueAt qs k := by simp [valueAt, yW, e']
   rw [xj e, b]; exact ih
theorem KV.any {kvs : List (κ × V)} {vs : List (κ × Value)} (r : KV kvs vs) (k : κ) : (kvs.any fun kv => decide (kv.1 = k)) = vs.any fun kv => decide (kv.1 = k) := by
 unfold KV at r
 induction r with
 | nil => rfl
 | cons h t ih => rw [yg, yg, ih, h.1]
theorem KV.repl {kvs : List (κ × V)} {vs : List (κ × Value)} (r : KV kvs vs) (k : κ) {y : V} {u : Value} (ry : RelV y u) :
  KV (kvs.map fun kv => if kv.1 = k then (kv.1, y) else kv) (vs.map fun kv => if kv.1 = k then (kv.1, u) else kv) := by
 unfold KV at r ⊢
 induction r with
 | nil => exact .nil
 | @cons p q ps qs h t ih =>
  rw [zc, zc]
  refine .cons ?_ ih
  obtain ⟨h1, h2⟩ := h
  by_cases e : p.1 = k
  ·rw [if_pos e, if_pos (h1.symm.trans e)]; exact ⟨h1, ry⟩
  ·rw [if_neg e, if_neg (fun z => e (h1.trans z))]; exact ⟨h1, h2⟩
theorem KV.put {kvs : List (κ × V)} {vs : List (κ × Value)} (r : KV kvs vs) (k : κ) {y : V} {u : Value} (ry : RelV y u) : KV (putK kvs k y) (stored vs k u) := by
 unfold putK stored
 rw [r.any k]
 by_cases e : (vs.any fun kv => decide (kv.1 = k)) = true
 ·rw [if_pos e, if_pos e]; exact r.repl k ry
 ·rw [if_neg e, if_neg e]; exact Paired.snoc r ⟨rfl, ry⟩
theorem KV.drop {kvs : List (κ × V)} {vs : List (κ × Value)} (r : KV kvs vs) (k : κ) : KV (dropK kvs k) (without vs k) := by
 unfold KV at r ⊢
 unfold dropK without
 induction r with
 | nil => exact .nil
 | @cons p q ps qs h t ih =>
  obtain ⟨h1, h2⟩ := h
  rw [List.filter_cons, List.filter_cons]
  by_cases e : p.1 = k
  ·have a : ¬ decide (p.1 ≠ k) = true := by simp [e]
   have b : ¬ decide (q.1 ≠ k) = true := by simp [h1.symm.trans e]
   rw [if_neg a, if_neg b]; exact ih
  ·have e' : ¬ q.1 = k := fun z => e (h1.trans z)
   have a : decide (p.1 ≠ k) = true := by simp [e]
   have b : decide (q.1 ≠ k) = true := by simp [e']
   rw [if_pos a, if_pos b]; exact .cons ⟨h1, h2⟩ ih
theorem KV.length {kvs : List (κ × V)} {vs : List (κ × Value)} (r : KV kvs vs) : kvs.length = vs.length := Paired.length r
theorem dropK_le (kvs : List (κ × V)) (k : κ) : (dropK kvs k).length <= kvs.length := List.length_filter_le _ _
end
theorem kV_is {P : Program} {w : World} {k : Key} {u : Value} (r : RelV (kV k) u) : (mixKind P w).is k u = true := by
 cases k with
 | inl i => obtain ⟨t, e⟩ := (show ∃ t, u = Value.int i t from r); subst e; exact mixKind_int P w i t
 | inr x => obtain ⟨t, e⟩ := (show ∃ t, u = Value.str x t from r); subst e; exact mixKind_str P w x t
theorem items_are {P : Program} {w : World} : ∀ {ks : List Key} {us : List Value}, Vals (ks.map kV) us -> ItemsAre (mixKind P w) ks us
 | [], _, r => by rw [yd] at r; cases r; exact .nil
 | k :: ks, _, r => by
  rw [zc] at r
  cases r with
  | cons h t => exact .cons (kV_is h) (items_are t)
abbrev KT (H : Hp) : List (List Key × V) -> List (List Key × Addr × Value) -> Prop := Paired fun p q => p.1 = q.1 /\ H q.2.1 = some (.tup (p.1.map kV)) /\ RelV p.2 q.2.2
theorem KT.val {H : Hp} {kvs : List (List Key × V)} {xs : List (List Key × Addr × Value)} (r : KT H kvs xs) (k : List Key) : RelO (valV kvs k) ((atKey xs k).map (·.2)) := by
 induction r with
 | nil => exact True.intro
 | @cons p q ps qs h t ih =>
  obtain ⟨h1, _, h2⟩ := h
  by_cases e : p.1 = k
  ·have e' : q.1 = k := h1.symm.trans e
   have b : atKey (q :: qs) k = some q.2 := by simp [atKey, yW, e']
   rw [xi e, b]; exact h2
  ·have e' : ¬ q.1 = k := fun z => e (h1.trans z)
   have b : atKey (q :: qs) k = atKey qs k := by simp [atKey, yW, e']
   rw [xj e, b]; exact ih
theorem KT.repl {H : Hp} {kvs : List (List Key × V)} {xs : List (List Key × Addr × Value)} (r : KT H kvs xs) (k : List Key) {y : V} {u : Value} (ry : RelV y u) :
  KT H (kvs.map fun kv => if kv.1 = k then (kv.1, y) else kv) (xs.map (putAt k u)) := by
 induction r with
 | nil => exact .nil
 | @cons p q ps qs h t ih =>
  rw [zc, zc]
  refine .cons ?_ ih
  obtain ⟨h1, h2, h3⟩ := h
  unfold putAt
  by_cases e : p.1 = k
  ·rw [if_pos e, if_pos (h1.symm.trans e)]; exact ⟨h1, h2, ry⟩
  ·rw [if_neg e, if_neg (fun z => e (h1.trans z))]; exact ⟨h1, h2, h3⟩
theorem KT.put {H : Hp} {kvs : List (List Key × V)} {xs : List (List Key × Addr × Value)} (r : KT H kvs xs) (k : List Key) {b : Addr} {y : V} {u : Value} (hb : H b = some (.tup (k.map kV))) (ry : RelV y u) :
  KT H (putK kvs k y) (storedH xs k b u) := by
 have e : (kvs.any fun kv => decide (kv.1 = k)) = (atKey xs k).isSome := by
  rw [valV_any, (r.val k).isSome_eq, zw]
 unfold putK storedH
 rw [e]
 by_cases q : (atKey xs k).isSome = true
 ·rw [if_pos q, if_pos q]; exact r.repl k ry
 ·rw [if_neg q, if_neg q]; exact Paired.snoc r ⟨rfl, hb, ry⟩
theorem KT.keeps {H H' : Hp} {kvs : List (List Key × V)} {xs : List (List Key × Addr × Value)} (r : KT H kvs xs) (ht : ∀ b ys, H b = some (.tup ys) -> H' b = some (.tup ys)) : KT H' kvs xs :=
 Paired.mapP r fun _ _ z => ⟨z.1, ht _ _ z.2.1, z.2.2⟩
section
variable {P : Program} {w : World} {H : Hp} {h : Heap} {a : Addr}
theorem rd_of {u : HO} (ok : HOk P w H h) (e : Rd H a u) : ObjOk P w H h a u := e.ok ok
theorem dk_rd {kvs : List (Key × V)} (ok : HOk P w H h) (e : Rd H a (.dK kvs)) : kvs.length <= sizeLine /\ (a == sysModules) = false /\ ∃ vs, KV kvs vs /\ h.DictOf (mixKind P w) a vs :=
 show ObjOk P w H h a (.dK kvs) from rd_of ok e
theorem dk_of {kvs : List (Key × V)} (ok : HOk P w H h) (e : H a = some (.dK kvs)) : kvs.length <= sizeLine /\ (a == sysModules) = false /\ ∃ vs, KV kvs vs /\ h.DictOf (mixKind P w) a vs := dk_rd ok (.inl e)
theorem key_of {ks : List Key} (ok : HOk P w H h) (e : H a = some (.tup (ks.map kV))) : (tupleKind (mixKind P w)).is h ks a := by
 obtain ⟨_, its, r, o, h1, h2, n, h3⟩ := (show ObjOk P w H h a (.tup (ks.map kV)) from ok a _ e)
 exact ⟨o, its.toArray, n, h1, h2, h3, by simpa using items_are r⟩
theorem dt_rd {kvs : List (List Key × V)} (ok : HOk P w H h) (e : Rd H a (.dT kvs)) : kvs.length <= sizeLine /\ (a == sysModules) = false /\
  ∃ xs, KT H kvs xs /\ h.DictOfH (tupleKind (mixKind P w)) a xs := by
 obtain ⟨z, y, xs, r, o, es, ep, h1, h2, h3, h4, h5⟩ := (show ObjOk P w H h a (.dT kvs) from rd_of ok e)
 refine ⟨z, y, xs, r, o, es, ep, h1, h2, h3, h4, fun x hx => ?_, h5⟩
 have all : ∀ {l : List (List Key × V)} {m : List (List Key × Addr × Value)}, KT H l m -> ∀ x ∈ m, (tupleKind (mixKind P w)).is h x.1 x.2.1 := by
  intro l m q
  induction q with
  | nil => intro x hx; exact nomatch hx
  | @cons p q ps qs hq t ih =>
   intro x hx
   rcases zR.mp hx with e | hx
   ·subst e
    exact key_of ok (by rw [<- hq.1]; exact hq.2.1)
   ·exact ih x hx
 exact all r x hx
theorem dt_of {kvs : List (List Key × V)} (ok : HOk P w H h) (e : H a = some (.dT kvs)) : kvs.length <= sizeLine /\ (a == sysModules) = false /\
  ∃ xs, KT H kvs xs /\ h.DictOfH (tupleKind (mixKind P w)) a xs := dt_rd ok (.inl e)
end
def DGet (H : Hp) (a : Addr) (y : V) (r : Option V) : Prop :=
 (∃ kvs k, Rd H a (.dK kvs) /\ y = kV k /\ r = valV kvs k) \/ ∃ kvs k b, Rd H a (.dT kvs) /\ y = .ref b /\ H b = some (.tup (k.map kV)) /\ r = valV kvs k
def DPut (H : Hp) (a : Addr) (y v : V) (H' : Hp) : Prop :=
 (∃ kvs k, H a = some (.dK kvs) /\ y = kV k /\ kvs.length < sizeLine /\ H' = upd H a (.dK (putK kvs k v))) \/
 ∃ kvs k b, H a = some (.dT kvs) /\ y = .ref b /\ H b = some (.tup (k.map kV)) /\ kvs.length < sizeLine /\ H' = upd H a (.dT (putK kvs k v))
theorem DGet.k {H : Hp} {a : Addr} {kvs : List (Key × V)} {k : Key} (e : H a = some (.dK kvs)) : DGet H a (kV k) (valV kvs k) := .inl ⟨kvs, k, .inl e, rfl, rfl⟩
theorem DPut.k {H : Hp} {a : Addr} {kvs : List (Key × V)} {k : Key} {v : V} (e : H a = some (.dK kvs)) (hl : kvs.length < sizeLine) : DPut H a (kV k) v (upd H a (.dK (putK kvs k v))) := .inl ⟨kvs, k, e, rfl, hl, rfl⟩
section
variable {X : Cx} {pins : List (Addr × Obj)} {σ : St} {H : Hp} {s : Shared} {a : Addr} {y v : V} {u r : Value} {o : Option V} {A : Around} {E : Value -> Shared -> Prop}
theorem Inv.big (I : Inv X pins σ H s) : sysModules < s.heap.objs.size := by
 have h : mainGlobals < s.heap.objs.size := (I.mod.glob.keeps I.bk).lt
 exact Nat.lt_trans (by decide) h
theorem d_getItem {Q : Value -> Shared -> Prop} (hu : A.units + 1 < cLine) (I : Inv X pins σ H s) (g : DGet H a y (some v)) (ry : RelV y u) (h : ∀ w' s', Inv X pins σ H s' -> RelV v w' -> Q w' s') :
  wpAny (model X.prog X.w) A (getItem (.ref a) u) Q E s := by
 rcases g with ⟨kvs, k, e, ey, l⟩ | ⟨kvs, k, b, e, ey, eb, l⟩
 ·subst ey
  obtain ⟨z, hd, vs, rel, dd⟩ := dk_rd I.hok e
  obtain ⟨w', hw, rw'⟩ := RelO.some_of (v := v) (o := valueAt vs k) (by rw [l]; exact rel.val k)
  exact wpAny_getItem_of (kV_is ry) dd.mapOf hw (h w' _ (I.tok _) rw')
 ·subst ey
  cases (show u = Value.ref b from ry)
  obtain ⟨z, hd, xs, rel, dd⟩ := dt_rd I.hok e
  obtain ⟨w', hw, rw'⟩ := RelO.some_of (v := v) (o := (atKey xs k).map (·.2)) (by rw [l]; exact rel.val k)
  obtain ⟨p, hp, hp2⟩ := Option.map_eq_some_iff.mp hw
  refine wpAny_getItem_heap (tupleKind_room_in1 hu) (key_of I.hok eb) dd hp ?_
  rw [hp2]
  exact h w' _ (I.tok _) rw'
theorem d_in {Q : Value -> Shared -> Prop} (hu : A.units + 1 < cLine) (I : Inv X pins σ H s) (g : DGet H a y o) (ry : RelV y u) (h : ∀ s', Inv X pins σ H s' -> Q (.bool o.isSome) s') :
  wpAny (model X.prog X.w) A (compareOp .In u (.ref a)) Q E s := by
 rcases g with ⟨kvs, k, e, ey, l⟩ | ⟨kvs, k, b, e, ey, eb, l⟩
 ·subst ey
  obtain ⟨z, hd, vs, rel, dd⟩ := dk_rd I.hok e
  refine wpAny_in_of (kV_is ry) hd dd.mapOf ?_
  rw [<- (rel.val k).isSome_eq, <- l]
  exact h _ (I.tok _)
 ·subst ey
  cases (show u = Value.ref b from ry)
  obtain ⟨z, hd, xs, rel, dd⟩ := dt_rd I.hok e
  refine wpAny_in_heap (tupleKind_room_in1 hu) (key_of I.hok eb) hd dd ?_
  have q := (rel.val k).isSome_eq
  rw [zw] at q
  rw [<- q, <- l]
  exact h _ (I.tok _)
theorem d_notIn {Q : Value -> Shared -> Prop} (hu : A.units + 1 < cLine) (I : Inv X pins σ H s) (g : DGet H a y o) (ry : RelV y u) (h : ∀ s', Inv X pins σ H s' -> Q (.bool (!o.isSome)) s') :
  wpAny (model X.prog X.w) A (compareOp .NotIn u (.ref a)) Q E s := by
 rcases g with ⟨kvs, k, e, ey, l⟩ | ⟨kvs, k, b, e, ey, eb, l⟩
 ·subst ey
  obtain ⟨z, hd, vs, rel, dd⟩ := dk_rd I.hok e
  refine wpAny_notIn_of (kV_is ry) hd dd.mapOf ?_
  rw [<- (rel.val k).isSome_eq, <- l]
  exact h _ (I.tok _)
 ·subst ey
  cases (show u = Value.ref b from ry)
  obtain ⟨z, hd, xs, rel, dd⟩ := dt_rd I.hok e
  refine wpAny_notIn_heap (tupleKind_room_in1 hu) (key_of I.hok eb) hd dd ?_
  have q := (rel.val k).isSome_eq
  rw [zw] at q
  rw [<- q, <- l]
  exact h _ (I.tok _)
theorem d_write {h' : Heap} {t' : Nat} {ob : HO} (I : Inv X pins σ H s) (mu : Mut (H a)) (hs : Heap.SameBut a s.heap h') (he : ∃ q, h'.get? a = some q) (new : ObjOk X.prog X.w (upd H a ob) h' a ob) :
  Inv X pins σ (upd H a ob) { s with heap := h', toks := t' } :=
 I.write (x := a) (e := a) mu (.inl rfl) (fun b q hb z => (hs.2 b hb).trans z) he new
theorem dk_new {P : Program} {w : World} {H' : Hp} {h' : Heap} {kvs : List (Key × V)} {vs : List (Key × Value)} (z : kvs.length <= sizeLine) (hd : (a == sysModules) = false) (rel : KV kvs vs) (dd : h'.DictOf (mixKind P w) a vs) :
  ObjOk P w H' h' a (.dK kvs) := ⟨z, hd, vs, rel, dd⟩
theorem d_setItem {H' : Hp} {Q : Unit -> Shared -> Prop} (hu : A.units + 1 < cLine) (I : Inv X pins σ H s) (g : DPut H a y v H') (ry : RelV y u) (rv : RelV v r) (h : ∀ s', Inv X pins σ H' s' -> Q () s') :
  wpAny (model X.prog X.w) A (setItem (.ref a) u r) Q E s := by
 rcases g with ⟨kvs, k, e, ey, l, eH⟩ | ⟨kvs, k, b, e, ey, eb, l, eH⟩
 ·subst ey eH
  obtain ⟨z, hd, vs, rel, dd⟩ := dk_of I.hok e
  have hz : vs.length <= sizeLine := by rw [<- rel.length]; exact z
  have hl : (putK kvs k v).length <= sizeLine := by have := length_putK kvs k v; omega
  refine wpAny_setItem_pairs (hsz := hz) (kV_is ry) dd fun h' dd' hs => h _ ?_
  have he : ∃ q, h'.get? a = some q := let ⟨q, _, _, hq, _⟩ := dd'; ⟨q, hq⟩
  exact d_write I (by rw [e]; exact True.intro) hs he (dk_new hl hd (rel.put k rv) dd')
 ·subst ey eH
  cases (show u = Value.ref b from ry)
  obtain ⟨z, hd, xs, rel, dd⟩ := dt_of I.hok e
  have hz : xs.length <= sizeLine := by rw [<- Paired.length rel]; exact z
  have hl : (putK kvs k v).length <= sizeLine := by have := length_putK kvs k v; omega
  refine wpAny_setItem_heap (hsz := hz) (tupleKind_room_in1 hu) (key_of I.hok eb) dd fun h' dd' hs => h _ ?_
  obtain ⟨q, es, ep, hq, h2, h3, h4, _, h5⟩ := dd'
  refine d_write I (by rw [e]; exact True.intro) hs ⟨q, hq⟩ ⟨hl, hd, _, (rel.put k eb rv).keeps fun c ys ec => ?_, q, es, ep, hq, h2, h3, h4, h5⟩
  rw [yy (xU ec e (fun z => nomatch z))]
  exact ec
end
section
variable {X : Cx} {pins : List (Addr × Obj)} {σ : St} {H : Hp} {s : Shared} {a : Addr} {kvs : List (Key × V)} {k : Key} {u : Value} {A : Around} {E : Value -> Shared -> Prop}
theorem d_delItem {Q : Unit -> Shared -> Prop} (I : Inv X pins σ H s) (e : H a = some (.dK kvs)) (ry : RelV (kV k) u) (l : (valV kvs k).isSome = true) (h : ∀ s', Inv X pins σ (upd H a (.dK (dropK kvs k))) s' -> Q () s') :
  wpAny (model X.prog X.w) A (delItem (.ref a) u) Q E s := by
 obtain ⟨z, hd, vs, rel, dd⟩ := dk_of I.hok e
 refine wpAny_delItem_slot dd.typeIs (by decide) PySem.F.slot_dict_delitem
  (call_meetsIn PySem.F.slot_dict_delitem dd.typeIs PySem.F.entry_dict_delitem (PySem.F.args_dict_delitem_2 _ _) (meets_dict_delitem_pairs (mixKind X.prog X.w) a (kV_is ry)) ⟨vs, dd, by rw [<- rel.length]; exact z, by rw [<- (rel.val k).isSome_eq]; exact l, fun h' dd' hs => h _ ?_⟩)
 have he : ∃ q, h'.get? a = some q := let ⟨q, _, _, hq, _⟩ := dd'; ⟨q, hq⟩
 exact d_write I (by rw [e]; exact True.intro) hs he (dk_new (ze (dropK_le kvs k) z) hd (rel.drop k) dd')
theorem d_pop {v : V} {more : List Value} {Q : Value -> Shared -> Prop} (I : Inv X pins σ H s) (e : H a = some (.dK kvs)) (ry : RelV (kV k) u) (l : valV kvs k = some v) (hm : more = [] \/ ∃ x, more = [x])
  (h : ∀ w' s', Inv X pins σ (upd H a (.dK (dropK kvs k))) s' -> RelV v w' -> Q w' s') : wpAny (model X.prog X.w) A (call (.builtin "dict.pop") (.ref a :: u :: more)) Q E s := by
 obtain ⟨z, hd, vs, rel, dd⟩ := dk_of I.hok e
 obtain ⟨w', hw, rw'⟩ := RelO.some_of (v := v) (o := valueAt vs k) (by rw [<- l]; exact rel.val k)
 have hp : (keyPart u).isSome = true := by
  cases k with
  | inl i => obtain ⟨t, q⟩ := (show ∃ t, u = Value.int i t from ry); subst q; rfl
  | inr x => obtain ⟨t, q⟩ := (show ∃ t, u = Value.str x t from ry); subst q; rfl
 have ha : argsOk "dict.pop" ⟨.ref a :: u :: more, []⟩ := by
  rcases hm with q | ⟨x, q⟩
  ·subst q; exact PySem.F.args_dict_pop_2 _ _
  ·subst q; exact PySem.F.args_dict_pop_3 _ _ _
 refine call_meetsIn PySem.F.slot_dict_pop dd.typeIs PySem.F.entry_dict_pop ha (meets_dict_pop_there (mixKind X.prog X.w) a (kV_is ry) more hm hp)
  ⟨vs, w', dd, by rw [<- rel.length]; exact z, hw, fun h' dd' hs => h w' _ ?_ rw'⟩
 have he : ∃ q, h'.get? a = some q := let ⟨q, _, _, hq, _⟩ := dd'; ⟨q, hq⟩
 exact d_write I (by rw [e]; exact True.intro) hs he (dk_new (ze (dropK_le kvs k) z) hd (rel.drop k) dd')
end
def NoSl (i : Expr) : Prop := ∀ ov iv, subscripted i false ov iv = operate [ov, iv] (getItem ov iv)
theorem subD_of {prog : Program} {w : World} {A : Around} {E : Value -> Shared -> Prop} {s : Shared} {env : Env} {value slice : Expr} {pos : Pos} {T id : String} {Q : Value -> Shared -> Prop}
  (hl : typeLookup (.type T) "__getitem__" = pure (some (.builtin id))) (hs : NoSl slice)
  (h : wpAny (model prog w) A (eval value env) (fun o s₁ => wpAny (model prog w) A (eval slice env) (fun i s₂ => s₂.TypeIs o T /\ wpAny (model prog w) A (getItem o i) Q E s₂) E s₁) E s) :
  wpAny (model prog w) A (eval (.Subscript value slice pos) env) Q E s := by
 refine Subscript_ (wpAny_mono h (fun o s₁ h₁ => wpAny_mono h₁ (fun i s₂ h₂ => ?_) fun _ _ x => x) fun _ _ x => x)
 obtain ⟨hT, h₂⟩ := h₂
 unfold subscriptTail
 refine wpAny_bind ?_
 rw [getitemInPython_of_ne hT.not_modules]
 refine wpAny_bind (wpAny_specialOf hT hl ?_)
 have fin : wpAny (model prog w) A (subscripted slice false o i) (fun r s₃ => wpAny (model prog w) A (letTemporaryGo value o r >>= fun _ => pure r) Q E s₃) E s₂ := by
  rw [hs o i]
  exact wpAny_operating (wpAny_mono h₂ (fun r s₃ h₃ => wpAny_bind (wpAny_letTemporaryGo (wpAny_pure h₃))) fun _ _ x => x)
 first
  | exact wpAny_pure (wpAny_bind fin)
  | exact wpAny_bind (wpAny_pure (wpAny_bind fin))
  | exact wpAny_bind fin
theorem dict_typeIs {X : Cx} {pins : List (Addr × Obj)} {σ : St} {H : Hp} {s : Shared} {a : Addr} {y : V} {o : Option V} (I : Inv X pins σ H s) (g : DGet H a y o) : s.TypeIs (.ref a) "dict" := by
 rcases g with ⟨kvs, k, e, _, _⟩ | ⟨kvs, k, b, e, _, _, _⟩
 ·obtain ⟨_, _, vs, _, dd⟩ := dk_rd I.hok e
  exact dd.typeIs
 ·obtain ⟨_, _, xs, _, dd⟩ := dt_rd I.hok e
  exact dd.typeIs
def tDGet (td ty : TE) : TE := fun σ H Q => td σ H fun x H1 => ty σ H1 fun y H2 => ∃ a v, x = .ref a /\ DGet H2 a y (some v) /\ Q v H2
def sDPut (td ty tv : TE) : TS := fun D σ H => tv σ H fun v H1 => td σ H1 fun x H2 => ty σ H2 fun y H3 => ∃ a H4, x = .ref a /\ DPut H3 a y v H4 /\ D.nx σ H4
def sDDel (td ty : TE) : TS := fun D σ H => td σ H fun x H1 => ty σ H1 fun y H2 => ∃ a kvs k, x = .ref a /\ H2 a = some (.dK kvs) /\ y = kV k /\ (valV kvs k).isSome = true /\ D.nx σ (upd H2 a (.dK (dropK kvs k)))
section
variable {X : Cx} {o i e value : Expr} {pos pos' tpos : Pos} {td ty tv : TE}
theorem pe_dget (hu : X.A.units + 1 < cLine) (ho : PE X o td) (hi : PE X i ty) (hs : NoSl i) : PE X (.Subscript o i pos) (tDGet td ty) := by
 intro pins s σ H Q I h
 refine subD_of PySem.F.slot_dict_getitem.lookup hs (thn (ho pins s σ H _ I h) fun u s1 ⟨x, H1, I1, rx, q1⟩ => thn (hi pins s1 σ H1 _ I1 q1) fun iv s2 ⟨y, H2, I2, ry, a, v, ex, g, q2⟩ => ?_)
 subst ex
 obtain rfl : u = Value.ref a := rx
 exact ⟨dict_typeIs I2 g, d_getItem hu I2 g ry fun w' s3 I3 rw' => ⟨v, H2, I3, rw', q2⟩⟩
theorem ps_dput (hu : X.A.units + 1 < cLine) (ho : PE X o td) (hi : PE X i ty) (hv : PE X value tv) (hs : swapsWith value (some (.Subscript o i pos')) pos.line X.env = pure false) :
  PS X (.Assign [.Subscript o i pos'] value pos) (sDPut td ty tv) := by
 intro pins s σ H D I h
 refine wpAny_Assign_Subscript (thn (hv pins s σ H _ I h) fun r s1 ⟨v, H1, I1, rv, q1⟩ => thn (ho pins s1 σ H1 _ I1 q1) fun u s2 ⟨x, H2, I2, rx, q2⟩ => thn (hi pins s2 σ H2 _ I2 q2) fun iv s3 ⟨y, H3, I3, ry, a, H4, ex, g, q3⟩ => ?_) hs
 subst ex
 obtain rfl : u = Value.ref a := rx
 exact d_setItem hu I3 g ry rv fun s4 I4 => ⟨σ, H4, I4, q3⟩
theorem ps_ddel (ho : PE X o td) (hi : PE X i ty) : PS X (.Delete [.Subscript o i tpos] pos) (sDDel td ty) := by
 intro pins s σ H D I h
 refine wpAny_Delete (wpAny_deleteEach_cons (wpAny_delete_Subscript (thn (ho pins s σ H _ I h) fun u s1 ⟨x, H1, I1, rx, q1⟩ => thn (hi pins s1 σ H1 _ I1 q1) fun iv s2 ⟨y, H2, I2, ry, a, kvs, k, ex, e, ey, l, q2⟩ => ?_)))
 subst ex ey
 obtain rfl : u = Value.ref a := rx
 exact d_delItem I2 e ry l fun s3 I3 => wpAny_deleteEach_nil ⟨σ, _, I3, q2⟩
end
theorem dk_empty {P : Program} {w : World} {H : Hp} (h : Heap) (hb : sysModules < h.objs.size) : ObjOk P w H (h.push { cls := .type "dict", data := .dict #[] }) h.objs.size (.dK []) :=
 ⟨zb _, beq_eq_false_iff_ne.mpr (Ne.symm (zV hb)), [], .nil, Heap.DictOf.new h⟩
section
variable {X : Cx} {pos : Pos}
end
def tPairs : List (TE × TE) -> St -> Hp -> (List (V × V) -> Hp -> Prop) -> Prop
 | [], _, H, Q => Q [] H
 | (tk, tv) :: r, σ, H, Q => tk σ H fun x H1 => tv σ H1 fun y H2 => tPairs r σ H2 fun ps H3 => Q ((x, y) :: ps) H3
abbrev VV : List (V × V) -> List (Value × Value) -> Prop := Paired fun p q => RelV p.1 q.1 /\ RelV p.2 q.2
def PPs (X : Cx) (pos : Pos) (keys : List (Option Expr)) (values : List Expr) (trs : List (TE × TE)) : Prop :=
 ∀ (pins : List (Addr × Obj)) (s : Shared) (σ : St) (H : Hp) (Q : List (V × V) -> Hp -> Prop), Inv X pins σ H s -> tPairs trs σ H Q ->
  wpAny (model X.prog X.w) X.A (evalPairs (pairTrees keys values X.env pos)) (fun vs s' => ∃ ps H', Inv X pins σ H' s' /\ VV ps vs /\ Q ps H') X.xe s
theorem pps_nil {X : Cx} {pos : Pos} : PPs X pos [] [] [] := fun pins s σ H Q I h => pairTrees_nil_walk ⟨[], H, I, .nil, h⟩
theorem pps_cons {X : Cx} {pos : Pos} {k v : Expr} {ks : List (Option Expr)} {vs : List Expr} {tk tv : TE} {trs : List (TE × TE)} (hk : PE X k tk) (hv : PE X v tv) (hr : PPs X pos ks vs trs) :
  PPs X pos (some k :: ks) (v :: vs) ((tk, tv) :: trs) := fun pins s σ H Q I h =>
 pairTrees_cons_walk (thn (hk pins s σ H _ I h) fun u s1 ⟨x, H1, I1, rx, q1⟩ => thn (hv pins s1 σ H1 _ I1 q1) fun w2 s2 ⟨y, H2, I2, ry, q2⟩ =>
  thn (hr pins s2 σ H2 _ I2 q2) fun ws s3 ⟨ps, H3, I3, rel, q3⟩ => ⟨(x, y) :: ps, H3, I3, .cons ⟨rx, ry⟩ rel, q3⟩)
def mergeK (kvs more : List (Key × V)) : List (Key × V) := more.foldl (fun acc kv => putK acc kv.1 kv.2) kvs
theorem KV.merge : ∀ {more : List (Key × V)} {rs : List (Key × Value)} {kvs : List (Key × V)} {vs : List (Key × Value)}, KV more rs -> KV kvs vs -> KV (mergeK kvs more) (merged vs rs) := by
 intro more rs kvs vs r
 unfold KV at r
 induction r generalizing kvs vs with
 | nil => intro q; exact q
 | @cons p q ps qs h t ih =>
  intro r0
  have e : KV (putK kvs p.1 p.2) (stored vs q.1 q.2) := by
   have := r0.put p.1 h.2
   rw [<- h.1]; exact this
  exact ih e
theorem length_mergeK : ∀ (more kvs : List (Key × V)), (mergeK kvs more).length <= kvs.length + more.length
 | [], kvs => by show kvs.length <= kvs.length + 0; omega
 | p :: r, kvs => by
  have h1 := length_mergeK r (putK kvs p.1 p.2)
  have h2 := length_putK kvs p.1 p.2
  show (mergeK (putK kvs p.1 p.2) r).length <= _
  rw [zf]; omega
theorem carries_of {P : Program} {w : World} : ∀ {kvs : List (Key × V)} {ws : List (Value × Value)}, VV (kvs.map fun kv => (kV kv.1, kv.2)) ws -> ∃ rs, Carries (mixKind P w) ws rs /\ KV kvs rs
 | [], _, r => by rw [yd] at r; cases r; exact ⟨[], True.intro, .nil⟩
 | p :: kvs, _, r => by
  rw [zc] at r
  cases r with
  | @cons a b as bs h t =>
   obtain ⟨rs, c, q⟩ := carries_of (P := P) (w := w) t
   obtain ⟨b1, b2⟩ := b
   exact ⟨(p.1, b2) :: rs, ⟨kV_is h.1, rfl, c⟩, .cons ⟨rfl, h.2⟩ q⟩
def tDisp (trs : List (TE × TE)) : TE := fun σ H Q => ∀ p, H p = none -> tPairs trs σ (upd H p (.dK [])) fun ps H2 => H2 p = some (.dK []) /\ ∃ kvs : List (Key × V), ps = kvs.map (fun kv => (kV kv.1, kv.2)) /\ kvs.length <= 15 /\ Q (.ref p) (upd H2 p (.dK (mergeK [] kvs)))
theorem pe_disp {X : Cx} {pos : Pos} {keys : List (Option Expr)} {values : List Expr} {trs : List (TE × TE)} (h : PPs X pos keys values trs) (hall : keys.all (·.isSome) = true) (hl : keys.length = values.length) (h0 : keys ≠ [])
  (h15 : keys.length <= 15) : PE X (.Dict keys values pos) (tDisp trs) := by
 intro pins s σ H Q I q
 have hn := I.hok.fresh (zG s.heap.objs.size)
 have I1 := I.laid (a := s.heap.objs.size) (o := .dK []) (h' := s.heap.push { cls := .type "dict", data := .dict #[] }) (t' := s.toks) (fun _ _ q => Heap.get?_push_of_some _ q) (zG _) (dk_empty s.heap I.big)
 refine wpAny_Dict_walk (knd := mixKind X.prog X.w) hall hl h0 h15 (thn (h pins _ σ _ _ I1 (q _ hn)) fun ws s2 ⟨ps, H2, I2, rel, e, kvs, ep, lk, q2⟩ => ?_)
 subst ep
 obtain ⟨rs, c, rk⟩ := carries_of (P := X.prog) (w := X.w) rel
 obtain ⟨z, hd, vs0, r0, dd⟩ := dk_of I2.hok e
 cases r0
 refine ⟨rs, c, dd, fun h' dd' hs => ⟨.ref s.heap.objs.size, _, ?_, rfl, q2⟩⟩
 have hz : (mergeK [] kvs).length <= sizeLine := by
  have h1 := length_mergeK kvs []
  rw [yK] at h1
  rw [sizeLine_eq]; omega
 have he : ∃ q, h'.get? s.heap.objs.size = some q := let ⟨q, _, _, hq, _⟩ := dd'; ⟨q, hq⟩
 exact d_write I2 (by rw [e]; exact True.intro) hs he (dk_new hz hd (rk.merge .nil) dd')
section
variable {X : Cx} {pins : List (Addr × Obj)} {σ : St} {H : Hp} {s : Shared} {a : Addr} {y d : V} {u r : Value} {o : Option V} {A : Around} {E : Value -> Shared -> Prop}
theorem d_get1 {Q : Value -> Shared -> Prop} (hu : A.units + 1 < cLine) (I : Inv X pins σ H s) (g : DGet H a y o) (ry : RelV y u) (h : ∀ w' s', Inv X pins σ H s' -> RelV (o.getD .non) w' -> Q w' s') :
  wpAny (model X.prog X.w) A (call (.builtin "dict.get") [.ref a, u]) Q E s := by
 rcases g with ⟨kvs, k, e, ey, l⟩ | ⟨kvs, k, b, e, ey, eb, l⟩
 ·subst ey
  obtain ⟨z, hd, vs, rel, dd⟩ := dk_rd I.hok e
  refine call_meetsIn PySem.F.slot_dict_get dd.typeIs PySem.F.entry_dict_get (PySem.F.args_dict_get_2 _ _) (meets_dict_get (mixKind X.prog X.w) a (kV_is ry) hd) ⟨_, dd.mapOf, h _ _ (I.tok _) ?_⟩
  rw [l]
  exact (rel.val k).getD rfl
 ·subst ey
  cases (show u = Value.ref b from ry)
  obtain ⟨z, hd, xs, rel, dd⟩ := dt_rd I.hok e
  refine call_meetsIn PySem.F.slot_dict_get dd.typeIs PySem.F.entry_dict_get (PySem.F.args_dict_get_2 _ _) (meetsH_dict_get (tupleKind (mixKind X.prog X.w)) a b hd) ⟨tupleKind_room_in1 hu, k, xs, key_of I.hok eb, dd, h _ _ (I.tok _) ?_⟩
  rw [l]
  exact (rel.val k).getD rfl
end
section
variable {X : Cx} {o e f : Expr} {apos cpos : Pos} {td ty tx : TE}
end
section
variable {X : Cx} {pins : List (Addr × Obj)} {σ : St} {H : Hp} {s : Shared} {a : Addr} {kvs : List (Key × V)} {A : Around} {E : Value -> Shared -> Prop}
end
section
variable {X : Cx} {pins : List (Addr × Obj)} {σ : St} {H : Hp} {s : Shared} {a : Addr} {y : V} {u : Value} {A : Around} {E : Value -> Shared -> Prop}
end
end L2
namespace HT
open PySem PyProof.Rows
section
open PySem.SeqAt
open PySem.AutoSeq1 (wpAny_loadPart')
open PySem.MeetsSeq PySem.MeetsSeq2 PySem.MeetsSeq3
end
section
variable {prog : Program} {w : World} {A : Around} {E : Value -> Shared -> Prop} {s : Shared}
theorem cat_tup {t b : Addr} {vs ws : List Value} {Q : Value -> Shared -> Prop} (ht : IsTup s.heap t vs.toArray) (hb : IsTup s.heap b ws.toArray) (hv : vs ≠ [])
  (h1 : ws = [] -> Q (.ref t) s) (h2 : ws ≠ [] -> Q (.ref s.heap.objs.size) { s with heap := s.heap.push { cls := .type "tuple", data := .seq (vs ++ ws).toArray } })
  (hsz : vs.length + ws.length <= sizeLine) : wpAny (model prog w) A (binaryOp .Add (.ref t) (.ref b)) Q E s := by
 obtain ⟨⟨cls, dd, data, sl⟩, ho, hc, n, hd⟩ := id ht
 obtain ⟨⟨cls2, dd2, data2, sl2⟩, ho2, hc2, n2, hd2⟩ := id hb
 simp only at hc hd hc2 hd2
 subst hc hd hc2 hd2
 have e : vs.toArray ++ ws.toArray = (vs ++ ws).toArray := by simp
 by_cases hw : ws = []
 ·exact concat_meets ⟨_, ho, rfl⟩ ⟨_, ho2, rfl⟩ noFill_tuple_add seq_tuple_add PySem.F.slot_tuple_add PySem.F.entry_tuple_add (PySem.F.args_tuple_add_2 _ _)
   (tuple_addW1 t b vs.toArray ws.toArray n n2 dd dd2 sl sl2 (by simpa using hv) (by simp [hw])) ⟨ho, ho2, h1 hw⟩
 ·refine concat_meets ⟨_, ho, rfl⟩ ⟨_, ho2, rfl⟩ noFill_tuple_add seq_tuple_add PySem.F.slot_tuple_add PySem.F.entry_tuple_add (PySem.F.args_tuple_add_2 _ _)
   (tuple_addW2 t b vs.toArray ws.toArray n n2 dd dd2 sl sl2 (by simpa using hv) (by simpa using hw) (by rw [zN, zN]; exact hsz)) ⟨ho, ho2, ?_⟩
  rw [e]
  exact h2 hw
def sIx (n d : Nat) : Option Int -> Nat
 | none => d
 | some v => if v < 0 then (v + (n : Int)).toNat else min v.toNat n
theorem sIx_nat (n d k : Nat) : sIx n d (some (k : Int)) = min k n := by
 show (if (k : Int) < 0 then ((k : Int) + (n : Int)).toNat else min (k : Int).toNat n) = min k n
 rw [if_neg (by omega), zF]
theorem sIx_le (n d : Nat) (hd : d <= n) (o : Option Int) : sIx n d o <= n := by
 cases o with
 | none => exact hd
 | some v =>
  show (if v < 0 then (v + (n : Int)).toNat else min v.toNat n) <= n
  by_cases hv : v < 0
  ·rw [if_pos hv]; omega
  ·rw [if_neg hv]; exact Nat.min_le_right _ _
theorem clip_eq (v : Int) (n d : Nat) : (if v < 0 then max (v + (n : Int)) 0 else min v (n : Int)) = ((sIx n d (some v) : Nat) : Int) := by
 show (if v < 0 then max (v + (n : Int)) 0 else min v (n : Int)) = (((if v < 0 then (v + (n : Int)).toNat else min v.toNat n) : Nat) : Int)
 by_cases hv : v < 0
 ·simp only [if_pos hv]; omega
 ·simp only [if_neg hv]; omega
theorem adjust_gen (lo hi : Option Int) (n : Nat) : Builtin.Slice.sliceAdjust lo hi 1 (n : Int) = (((sIx n 0 lo : Nat) : Int), ((sIx n n hi : Nat) : Int)) := by
 have h1 : ¬ ((1 : Int) < 0) := by omega
 unfold Builtin.Slice.sliceAdjust
 simp only [h1, if_false]
 refine Prod.ext ?_ ?_
 ·cases lo with
  | none => rfl
  | some v => exact clip_eq v n 0
 ·cases hi with
  | none => rfl
  | some v => exact clip_eq v n n
theorem places_gen (i j : Nat) : Builtin.Slice.slicePlaces (i : Int) (j : Int) 1 = j - i := by
 unfold Builtin.Slice.slicePlaces
 have h1 : (1 : Int) > 0 := by omega
 simp only [h1, if_true, Int.ediv_one]
 split <;> omega
theorem slicePart_ {v : Value} {o : Option Int} {Q : Option Int -> Shared -> Prop} (p : IsPart v o) (h : Q o s) : wpAny (model prog w) A (Builtin.Slice.slicePartIndex v) Q E s := by
 cases p with
 | none => exact slicePart_none h
 | int i t => exact slicePart_int h
theorem sliceApplied_gen {sl : Addr} {vl vu : Value} {lo hi : Option Int} {n : Nat} {Q : Int × Int × Nat -> Shared -> Prop} (hs : s.heap.IsSliceOf sl vl vu .none) (pl : IsPart vl lo) (pu : IsPart vu hi)
  (h : Q (((sIx n 0 lo : Nat) : Int), 1, sIx n n hi - sIx n 0 lo) s) : wpAny (model prog w) A (Builtin.Slice.sliceApplied (.ref sl) (pure (n : Int))) Q E s := by
 obtain ⟨os, hos, hcs, hds⟩ := id hs
 unfold Builtin.Slice.sliceApplied Builtin.Slice.sliceFields
 refine wpAny_bind (wpAny_bind (wpAny_field hos hds (x := vl) rfl (wpAny_bind (wpAny_field hos hds (x := vu) rfl (wpAny_bind (wpAny_field hos hds (x := .none) rfl (wpAny_pure ?_)))))))
 refine wpAny_bind (slicePart_none ?_)
 show wpAny _ _ (if ((1 : Int) == 0) = true then _ else _) _ _ s
 rw [if_neg (by decide)]
 refine wpAny_bind (slicePart_ pl (wpAny_bind (slicePart_ pu (wpAny_bind (wpAny_pure ?_)))))
 show wpAny _ _ (match Builtin.Slice.sliceAdjust lo hi 1 (n : Int) with | (lo, hi) => pure (lo, (1 : Int), Builtin.Slice.slicePlaces lo hi 1)) _ _ s
 rw [adjust_gen lo hi n]
 show wpAny _ _ (pure (((sIx n 0 lo : Nat) : Int), (1 : Int), Builtin.Slice.slicePlaces ((sIx n 0 lo : Nat) : Int) ((sIx n n hi : Nat) : Int) 1)) _ _ s
 rw [places_gen]
 exact wpAny_pure h
theorem pick_gen (xs : Array Value) (i k : Nat) : ((List.range k).filterMap fun (m : Nat) => xs[((i : Int) + (m : Int) * 1).toNat]?).toArray = ((xs.toList.drop i).take k).toArray := by
 have e : (fun (m : Nat) => xs[((i : Int) + (m : Int) * 1).toNat]?) = fun m => xs[i + m]? := by
  funext m
  have : ((i : Int) + (m : Int) * 1).toNat = i + m := by omega
  rw [this]
 rw [e]
 have := pick_run xs i k
 rw [List.filterMap_map] at this
 have e2 : ((fun x => xs[x]?) ∘ fun x => i + x) = fun m => xs[i + m]? := rfl
 rw [e2] at this
 rw [this]
theorem getItem_tuple_cut {t sl : Addr} {items : Array Value} {vl vu : Value} {lo hi : Option Int} {Q : Value -> Shared -> Prop} (ht : IsTup s.heap t items) (hs : s.heap.IsSliceOf sl vl vu .none) (pl : IsPart vl lo) (pu : IsPart vu hi)
  (hw : ¬ (sIx items.size 0 lo = 0 /\ sIx items.size items.size hi = items.size))
  (h : Q (.ref s.heap.objs.size) { s with heap := s.heap.push { cls := .type "tuple", data := .seq ((items.toList.drop (sIx items.size 0 lo)).take (sIx items.size items.size hi - sIx items.size 0 lo)).toArray } })
  (hsz : items.size <= sizeLine) : wpAny (model prog w) A (getItem (.ref t) (.ref sl)) Q E s := by
 have htake : sizeOk (.seq ((items.toList.drop (sIx items.size 0 lo)).take (sIx items.size items.size hi - sIx items.size 0 lo)).toArray) := by
  show ((items.toList.drop (sIx items.size 0 lo)).take (sIx items.size items.size hi - sIx items.size 0 lo)).toArray.size <= sizeLine
  rw [zN, zq, List.length_drop, Array.length_toList]
  omega
 have hj : sIx items.size items.size hi <= items.size := sIx_le _ _ (zG _) hi
 obtain ⟨os, hos, hcs, hds⟩ := id hs
 have hTs : s.TypeIs (.ref sl) "slice" := ⟨os, hos, hcs⟩
 unfold getItem
 try with_reducible refine wpAny_holding ?_
 first | refine wpAny_bind (wpAny_pure ?_) | skip
 refine wpAny_bind (wpAny_sequenceKey ht.typeIs (by decide) ?_)
 refine wpAny_bind (wpAny_callSpecial?_slot (name := Str.ofString "__getitem__") ht.typeIs PyProof.Rows.slot_tuple_getitem
  (wpAny_call_entry PyProof.Rows.slot_tuple_getitem ht.typeIs entry_tuple_getitem ?_ (args_tuple_getitem _ _)))
 show wpAny _ _ (Builtin.Tuple.tupleItemsOf (.ref t) >>= _) _ _ s
 refine wpAny_bind (tupleItemsOf_ ht ?_)
 refine wpAny_bind (wpAny_typeOf hTs ?_)
 rw [if_pos (by decide)]
 refine wpAny_bind (sliceApplied_gen hs pl pu ?_)
 have hno : ¬ ((((sIx items.size 0 lo : Nat) : Int) == 0 && (1 : Int) == 1 && (sIx items.size items.size hi - sIx items.size 0 lo) == items.size) = true) := by
  intro q
  rw [zr, zr] at q
  have q1 : ((sIx items.size 0 lo : Nat) : Int) = 0 := eq_of_beq q.1.1
  have q2 : sIx items.size items.size hi - sIx items.size 0 lo = items.size := eq_of_beq q.2
  exact hw ⟨by omega, by omega⟩
 show wpAny _ _ (if (((sIx items.size 0 lo : Nat) : Int) == 0 && (1 : Int) == 1 && (sIx items.size items.size hi - sIx items.size 0 lo) == items.size) = true then _ else _) _ _ s
 rw [if_neg hno, pick_gen]
 first
  | exact wpAny_bind (m := Builtin.Tuple.tupleExact _) (wpAny_newObj_type (wpAny_pure ⟨_, rfl, wpAny_pure h⟩) htake)
  | exact wpAny_bind (m := Builtin.Tuple.tupleExact _) (wpAny_newObj_type (wpAny_bind (wpAny_pure (wpAny_pure ⟨_, rfl, wpAny_pure h⟩))) htake)
  | exact wpAny_bind (wpAny_bind (m := Builtin.Tuple.tupleExact _) (wpAny_newObj_type (wpAny_pure (wpAny_pure ⟨_, rfl, wpAny_pure h⟩)) htake))
  | exact wpAny_bind (wpAny_bind (m := Builtin.Tuple.tupleExact _) (wpAny_newObj_type (wpAny_pure ⟨_, rfl, wpAny_pure h⟩) htake))
end
end HT
namespace L2
open PySem PySem.Spec PyProof.Rows
abbrev TO := St -> Hp -> (Option Int -> Hp -> Prop) -> Prop
def PO (X : Cx) (e : Option Expr) (t : TO) : Prop :=
 ∀ (pins : List (Addr × Obj)) (s : Shared) (σ : St) (H : Hp) (Q : Option Int -> Hp -> Prop), Inv X pins σ H s -> t σ H Q ->
  wpAny (model X.prog X.w) X.A (evalPart e X.env) (fun u s' => ∃ o H', Inv X pins σ H' s' /\ IsPart u o /\ Q o H') X.xe s
def tNoPart : TO := fun _ H Q => Q none H
def tPart (t : TE) : TO := fun σ H Q => t σ H fun x H1 => ∃ i, x = .int i /\ Q (some i) H1
theorem intsAre_of {ns : List Int} : ∀ {us : List Value}, Vals (ns.map V.int) us -> IntsAre us ns := by
 induction ns with
 | nil => intro us r; rw [yd] at r; cases r; exact .nil
 | cons n ns ih =>
  intro us r
  rw [zc] at r
  cases r with
  | cons r1 r2 =>
   obtain ⟨t, e⟩ := r1
   subst e
   exact .cons n t (ih r2)
section
variable {X : Cx} {e : Expr} {te : TE} {lo hi : Option Expr} {tl th : TO} {pos p2 : Pos}
theorem po_none : PO X none tNoPart := by
 intro pins s σ H Q I h
 rw [evalPart_none]
 exact wpAny_pure ⟨none, H, I, .none, h⟩
theorem po_some (h : PE X e te) : PO X (some e) (tPart te) := by
 intro pins s σ H Q I hw
 rw [evalPart_some]
 refine thn (h pins s σ H _ I hw) fun u s1 ⟨x, H1, I1, r1, q1⟩ => ?_
 obtain ⟨i, rfl, q⟩ := q1
 obtain ⟨t, rfl⟩ := r1
 exact ⟨some i, H1, I1, .int i t, q⟩
def SlR (X : Cx) (r : V -> Option Int -> Option Int -> Hp -> VK -> Prop) : Prop :=
 ∀ (pins : List (Addr × Obj)) (s : Shared) (σ : St) (H : Hp) (x : V) (v vl vu : Value) (lo hi : Option Int) (sl : Addr) (Q : VK), Inv X pins σ H s -> RelV x v -> s.heap.IsSliceOf sl vl vu .none -> IsPart vl lo -> IsPart vu hi -> r x lo hi H Q ->
  ∃ T id, typeLookup (.type T) "__getitem__" = pure (some (.builtin id)) /\ s.TypeIs v T /\ wpAny (model X.prog X.w) X.A (getItem v (.ref sl)) (EP X pins σ Q) X.xe s
def tSl (r : V -> Option Int -> Option Int -> Hp -> VK -> Prop) (te : TE) (tl th : TO) : TE := fun σ H Q => te σ H fun x H1 => tl σ H1 fun l H2 => th σ H2 fun u H3 => r x l u H3 Q
theorem pe_slice {r : V -> Option Int -> Option Int -> Hp -> VK -> Prop} (hr : SlR X r) (he : PE X e te) (hl : PO X lo tl) (hu : PO X hi th) : PE X (.Subscript e (.Slice lo hi none p2) pos) (tSl r te tl th) := by
 intro pins s σ H Q I h
 refine Subscript_ (thn (he pins s σ H _ I h) fun v s1 ⟨x, H1, I1, r1, q1⟩ => ?_)
 refine wpAny_Slice (thn (hl pins s1 σ H1 _ I1 q1) fun vl s2 ⟨l, H2, I2, pl, q2⟩ => thn (hu pins s2 σ H2 _ I2 q2) fun vu s3 ⟨u, H3, I3, pu, q3⟩ => ?_)
 rw [evalPart_none]
 refine wpAny_pure ?_
 have I4 : Inv X pins σ H3 { s3 with heap := s3.heap.push { cls := .type "slice", data := .fields #[vl, vu, .none] } } := I3.kept (t' := s3.toks) fun b ob q => Heap.get?_push_of_some _ q
 obtain ⟨T, id, hT, ht, hg⟩ := hr pins { s3 with heap := s3.heap.push { cls := .type "slice", data := .fields #[vl, vu, .none] } } σ H3 x v vl vu l u s3.heap.objs.size Q I4 r1 (Heap.IsSliceOf.new ..) pl pu q3
 show wpAny (model X.prog X.w) X.A (subscriptTail e (.Slice lo hi none p2) v (.ref s3.heap.objs.size)) (EP X pins σ Q) X.xe { s3 with heap := s3.heap.push { cls := .type "slice", data := .fields #[vl, vu, .none] } }
 exact tail_any (ops := [.ref s3.heap.objs.size, v]) ht hT hg (by with_unfolding_all rfl)
def cutV (xs : List V) (lo hi : Option Int) : List V := (xs.drop (HT.sIx xs.length 0 lo)).take (HT.sIx xs.length xs.length hi - HT.sIx xs.length 0 lo)
theorem cutV_length (xs : List V) (lo hi : Option Int) : (cutV xs lo hi).length <= xs.length := by
 unfold cutV
 rw [zq, List.length_drop]
 omega
def rSlT (K : PySem.W.Frag) : V -> Option Int -> Option Int -> Hp -> VK -> Prop := fun x lo hi H Q => ∃ a xs, x = .ref a /\ SqT K H a xs /\
 ¬ (HT.sIx xs.length 0 lo = 0 /\ HT.sIx xs.length xs.length hi = xs.length) /\ ∀ p, H p = none -> Q (.ref p) (upd H p (.tup (cutV xs lo hi)))
theorem sl_tup : SlR X (rSlT X.K) := by
 intro pins s σ H x v vl vu lo hi sl Q I rx hs pl pu h
 obtain ⟨a, xs, rfl, hx, hw, q⟩ := h
 cases rx
 obtain ⟨its, r, ht, hz⟩ := I.tuple hx
 have hlen : its.toArray.size = xs.length := by rw [zN]; exact r.length.symm
 refine ⟨"tuple", _, PyProof.Rows.slot_tuple_getitem.lookup, ht.typeIs, ?_⟩
 refine HT.getItem_tuple_cut ht hs pl pu (by rw [hlen]; exact hw) ?_ (by rw [hlen]; exact hz)
 rw [hlen]
 refine ⟨.ref s.heap.objs.size, _, I.laid (t' := s.toks) (o := .tup (cutV xs lo hi)) (fun b ob q => Heap.get?_push_of_some _ q) (zG _) ?_, rfl, q _ (I.hok.fresh (zG _))⟩
 exact ⟨ze (cutV_length xs lo hi) hz, _, (r.drop (HT.sIx xs.length 0 lo)).take (HT.sIx xs.length xs.length hi - HT.sIx xs.length 0 lo), IsTup.new _ _⟩
def rCatT (K : PySem.W.Frag) : R2 := fun x y H Q => ∃ a b xs ys, x = .ref a /\ y = .ref b /\ SqT K H a xs /\ SqT K H b ys /\ xs ≠ [] /\ xs.length + ys.length <= sizeLine /\
 (ys = [] -> Q (.ref a) H) /\ (ys ≠ [] -> ∀ p, H p = none -> Q (.ref p) (upd H p (.tup (xs ++ ys))))
theorem Vals.nil_iff {xs : List V} {us : List Value} (r : Vals xs us) : us = [] ↔ xs = [] := by
 cases r with
 | nil => simp
 | cons _ _ => simp
theorem op_catT : OpR X (binaryOp .Add) (rCatT X.K) := by
 intro pins s σ H x y v u Q I rx ry h
 obtain ⟨a, b, xs, ys, rfl, rfl, ha, hb, hx, hz, q1, q2⟩ := h
 cases rx
 cases ry
 obtain ⟨its, r1, p1, _⟩ := I.tuple ha
 obtain ⟨its2, r2, p2, _⟩ := I.tuple hb
 refine HT.cat_tup p1 p2 (fun z => hx (r1.nil_iff.mp z)) (fun z => ⟨.ref a, H, I, rfl, q1 (r2.nil_iff.mp z)⟩) (fun z => ?_) (by rw [<- r1.length, <- r2.length]; exact hz)
 refine ⟨.ref s.heap.objs.size, _, I.laid (t' := s.toks) (o := .tup (xs ++ ys)) (fun b ob q => Heap.get?_push_of_some _ q) (zG _) ?_, rfl, q2 (fun w => z (r2.nil_iff.mpr w)) _ (I.hok.fresh (zG _))⟩
 exact ⟨by rw [zT]; exact hz, _, r1.append r2, IsTup.new _ _⟩
end
end L2
namespace L2
open PySem PySem.Spec PyProof.Rows
def ixN (n : Nat) (i : Int) : Option Nat := if 0 <= i then (if i < n then some i.toNat else none) else if -(n : Int) <= i then some (i + n).toNat else none
def atI {α : Type} (xs : List α) (i : Int) : Option α := (ixN xs.length i).bind fun j => xs[j]?
theorem ixN_seq {n : Nat} {i : Int} {j : Nat} (h : ixN n i = some j) : seqIndex? i n = some j /\ j < n /\ -(n : Int) <= i /\ i < n := by
 unfold ixN at h
 by_cases h0 : 0 <= i
 ·rw [if_pos h0] at h
  by_cases h1 : i < n
  ·rw [if_pos h1] at h
   have e : i.toNat = j := Option.some.inj h
   exact ⟨by rw [seqIndex_of h0 h1, e], by omega, by omega, h1⟩
  ·rw [if_neg h1] at h; cases h
 ·rw [if_neg h0] at h
  by_cases h1 : -(n : Int) <= i
  ·rw [if_pos h1] at h
   have e : (i + n).toNat = j := Option.some.inj h
   exact ⟨by rw [seqIndex_neg (by omega) h1, e], by omega, h1, by omega⟩
  ·rw [if_neg h1] at h; cases h
theorem atI_get {α : Type} {xs : List α} {i : Int} {v : α} (h : atI xs i = some v) : ∃ j, seqIndex? i xs.length = some j /\ xs[j]? = some v /\ j < xs.length /\ -(xs.length : Int) <= i /\ i < xs.length := by
 unfold atI at h
 cases e : ixN xs.length i with
 | none => rw [e] at h; cases h
 | some j =>
  rw [e] at h
  obtain ⟨h1, h2, h3, h4⟩ := ixN_seq e
  exact ⟨j, h1, h, h2, h3, h4⟩
theorem xM {α : Type} {xs : List α} {j : Nat} {v : α} (h : xs[j]? = some v) : atI xs (j : Int) = some v := by
 have hj : j < xs.length := (zB.mp h).1
 have e : ixN xs.length (j : Int) = some j := by
  unfold ixN
  rw [if_pos (by omega), if_pos (by omega)]; simp
 unfold atI; rw [e]; exact h
theorem atI_last {α : Type} (xs : List α) (v : α) : atI (xs ++ [v]) (-1) = some v := by
 have hl : (xs ++ [v]).length = xs.length + 1 := by simp
 have e : ixN (xs ++ [v]).length (-1) = some xs.length := by
  unfold ixN
  rw [hl, if_neg (by decide), if_pos (by omega)]
  congr 1
  omega
 unfold atI
 rw [e]
 show (xs ++ [v])[xs.length]? = some v
 simp
def PlainIx (b : Expr) : Prop := ∀ o i, subscripted b false o i = operate [o, i] (getItem o i)
def IxR (X : Cx) (r : R2) : Prop :=
 ∀ (value slice : Expr) (pins : List (Addr × Obj)) (s : Shared) (σ : St) (H : Hp) (x y : V) (v u : Value) (Q : VK), Inv X pins σ H s -> RelV x v -> RelV y u -> r x y H Q ->
  subscripted slice false v u = operate [v, u] (getItem v u) -> wpAny (model X.prog X.w) X.A (subscriptTail value slice v u) (EP X pins σ Q) X.xe s
def MtR (X : Cx) (id : String) (r : V -> List V -> Hp -> VK -> Prop) : Prop :=
 ∀ (pins : List (Addr × Obj)) (s : Shared) (σ : St) (H : Hp) (x : V) (xs : List V) (v : Value) (us : List Value) (Q : VK), Inv X pins σ H s -> RelV x v -> Vals xs us -> r x xs H Q ->
  wpAny (model X.prog X.w) X.A (call (.builtin id) (v :: us)) (EP X pins σ Q) X.xe s
section
variable {X : Cx} {a b : Expr} {ta tb : TE} {pos : Pos}
theorem xD {r : R2} (hr : IxR X r) (ha : PE X a ta) (hb : PE X b tb) (hs : PlainIx b) : PE X (.Subscript a b pos) (tOp r ta tb) := by
 intro pins s σ H Q I h
 exact Subscript_ (binT ha hb I h fun v u s2 x y H2 I2 rx ry q => hr a b pins s2 σ H2 x y v u Q I2 rx ry q (hs _ _))
def rIxL (K : PySem.W.Frag) : R2 := fun x y H Q => ∃ p xs i v, x = .ref p /\ y = .int i /\ SqL K H p xs /\ atI xs i = some v /\ Q v H
def rIxT (K : PySem.W.Frag) : R2 := fun x y H Q => ∃ p xs i v, x = .ref p /\ y = .int i /\ SqT K H p xs /\ atI xs i = some v /\ Q v H
theorem ix_list : IxR X (rIxL X.K) := by
 intro value slice pins s σ H x y v u Q I rx ry h hs
 obtain ⟨p, xs, i, z, rfl, rfl, hq, he, q⟩ := h
 cases rx
 obtain ⟨t, rfl⟩ := ry
 obtain ⟨its, r, pl, hz⟩ := I.list hq
 obtain ⟨j, h1, h2, h3, h4, h5⟩ := atI_get he
 obtain ⟨w, ew, rw'⟩ := r.get h2
 have hl := r.length
 have hn := line63
 have fin : EP X pins σ Q w s := ⟨z, H, I, rw', q⟩
 by_cases h0 : 0 <= i
 ·have hj : i.toNat = j := by
   rw [seqIndex_of h0 h5] at h1
   exact Option.some.inj h1
  exact item_listR pl.isList h0 (by omega) (by rw [hj]; simpa using ew) fin hs
 ·have hj : (i + (its.toArray.size : Int)).toNat = j := by
   rw [seqIndex_neg (by omega) h4] at h1
   rw [zN, <- hl]
   exact Option.some.inj h1
  exact subscriptTail_builtinR (x := w) pl.isList.typeIs slot_list_getitem.lookup
   (wpAny_getItem_list_neg (Q := fun r s' => r = w /\ EP X pins σ Q r s') pl.isList (by omega) (by rw [zN] <;> omega) (by omega) (by rw [hj]; simpa using ew) ⟨rfl, fin⟩) hs
theorem ix_tup : IxR X (rIxT X.K) := by
 intro value slice pins s σ H x y v u Q I rx ry h hs
 obtain ⟨p, xs, i, z, rfl, rfl, hq, he, q⟩ := h
 cases rx
 obtain ⟨t, rfl⟩ := ry
 obtain ⟨its, r, pl, hz⟩ := I.tuple hq
 obtain ⟨j, h1, h2, h3, h4, h5⟩ := atI_get he
 obtain ⟨w, ew, rw'⟩ := r.get h2
 have hl := r.length
 have hn := line63
 have fin : EP X pins σ Q w s := ⟨z, H, I, rw', q⟩
 exact subscriptTail_builtinR (x := w) pl.typeIs slot_tuple_getitem.lookup
  (getItem_tuple (j := j) (Q := fun r s' => r = w /\ EP X pins σ Q r s') pl (by omega) (by omega) (by rw [zN, <- hl]; exact h1) (by simpa using ew) ⟨rfl, fin⟩) hs
theorem mapSeq_set (its : List Value) (n j : Nat) (u : Value) : Obj.mapSeq (·.setIfInBounds j u) { cls := .type "list", data := .seq its.toArray n } = { cls := .type "list", data := .seq (its.set j u).toArray n } := by
 simp [Obj.mapSeq]
theorem Inv.lst {pins : List (Addr × Obj)} {σ : St} {H : Hp} {s : Shared} {p : Addr} {xs : List V} (I : Inv X pins σ H s) (h : H p = some (.lst xs)) :
  ∃ (its : List Value) (n : Nat), Vals xs its /\ s.heap.get? p = some { cls := .type "list", data := .seq its.toArray n } /\ xs.length <= sizeLine := by
 obtain ⟨z, its, n, r, e⟩ := I.hok p _ h
 exact ⟨its, n, r, e, z⟩
theorem Inv.lstUpd {pins : List (Addr × Obj)} {σ : St} {H : Hp} {s : Shared} {p : Addr} {xs ys : List V} {its its' : List Value} {n n' : Nat} {f : Obj -> Obj} (I : Inv X pins σ H s) (h : H p = some (.lst xs))
  (ho : s.heap.get? p = some { cls := .type "list", data := .seq its.toArray n }) (hf : f { cls := .type "list", data := .seq its.toArray n } = { cls := .type "list", data := .seq its'.toArray n' }) (r : Vals ys its') (hz : ys.length <= sizeLine) (t : Nat) :
  Inv X pins σ (upd H p (.lst ys)) { s with heap := s.heap.update p f, toks := t } := by
 have e : (s.heap.update p f).get? p = some { cls := .type "list", data := .seq its'.toArray n' } := by
  rw [Heap.get?_update_self f ho (by rw [hf] <;> rfl), hf]
 refine I.write (x := p) (e := p) (by rw [h]; trivial) (.inl rfl) (fun b u hb q => (Heap.get?_update_other _ _ (Ne.symm hb)).trans q) ⟨_, e⟩ ?_
 exact ⟨hz, its', n', r, e⟩
def rSetL : V -> V -> V -> Hp -> (Hp -> Prop) -> Prop := fun o i v H Q => ∃ p xs k j, o = .ref p /\ i = .int k /\ H p = some (.lst xs) /\ ixN xs.length k = some j /\ Q (upd H p (.lst (xs.set j v)))
theorem set_list : PSet X rSetL := by
 intro pins s σ H o i v ov iv u Q I ro ri rv h
 obtain ⟨p, xs, k, j, rfl, rfl, hp, hj, q⟩ := h
 cases ro
 obtain ⟨t, rfl⟩ := ri
 obtain ⟨its, n, r, ho, hz⟩ := I.lst hp
 obtain ⟨h1, h2, h3, h4⟩ := ixN_seq hj
 have hl := r.length
 have hn := line63
 have I' : Inv X pins σ (upd H p (.lst (xs.set j v))) { s with heap := s.heap.update p (Obj.mapSeq (·.setIfInBounds j u)) } :=
  I.lstUpd hp ho (mapSeq_set its n j u) (r.set rv j) (by rw [zj]; exact hz) s.toks
 by_cases h0 : 0 <= k
 ·have hk : k.toNat = j := by
   rw [seqIndex_of h0 h4] at h1
   exact Option.some.inj h1
  exact PySem.W.ki_setAt ho h0 (by omega) (by rw [zN, <- hl]; exact h4) (by rw [hk]; exact ⟨_, I', q⟩)
 ·have hk : (k + (its.toArray.size : Int)).toNat = j := by
   rw [seqIndex_neg (by omega) h3] at h1
   rw [zN, <- hl]
   exact Option.some.inj h1
  exact PySem.W.ki_setBack ho (by omega) (by rw [zN, <- hl]; exact h3) (by omega) (by rw [hk]; exact ⟨_, I', q⟩)
theorem slice_bounds (lo hi : Option Int) (n : Nat) : (sliceBounds lo hi none n).1 = ((HT.sIx n 0 lo : Nat) : Int) /\ (sliceBounds lo hi none n).2.1 = ((HT.sIx n n hi : Nat) : Int) /\ (sliceBounds lo hi none n).2.2 = 1 := by
 refine ⟨?_, ?_, rfl⟩
 ·cases lo with
  | none => simp [sliceBounds, HT.sIx]
  | some i =>
   simp only [sliceBounds, HT.sIx, Option.getD_none, show (1 : Int) > 0 by decide, if_true]
   by_cases h : i < 0
   ·simp only [h, if_true] <;> omega
   ·simp only [h, if_false] <;> omega
 ·cases hi with
  | none => simp [sliceBounds, HT.sIx]
  | some i =>
   simp only [sliceBounds, HT.sIx, Option.getD_none, show (1 : Int) > 0 by decide, if_true]
   by_cases h : i < 0
   ·simp only [h, if_true] <;> omega
   ·simp only [h, if_false] <;> omega
theorem slicePick_cut (its : List Value) (lo hi : Option Int) : slicePick its.toArray lo hi none = ((its.drop (HT.sIx its.length 0 lo)).take (HT.sIx its.length its.length hi - HT.sIx its.length 0 lo)).toArray := by
 obtain ⟨h1, h2, h3⟩ := slice_bounds lo hi its.toArray.size
 unfold slicePick
 rw [h1, h2, h3]
 simp only [sliceRange_one, pick_run, zN] <;> rfl
def rSlL (K : PySem.W.Frag) : V -> Option Int -> Option Int -> Hp -> VK -> Prop := fun x lo hi H Q => ∃ a xs, x = .ref a /\ SqL K H a xs /\ ∀ p, H p = none -> Q (.ref p) (upd H p (.lst (cutV xs lo hi)))
theorem sl_list : SlR X (rSlL X.K) := by
 intro pins s σ H x v vl vu lo hi sl Q I rx hs pl pu h
 obtain ⟨a, xs, rfl, hx, q⟩ := h
 cases rx
 obtain ⟨its, r, ht, hz⟩ := I.list hx
 have hlen := r.length
 refine ⟨"list", _, slot_list_getitem.lookup, ht.isList.typeIs, ?_⟩
 refine wpAny_getItem_list_slice ht.isList hs pl pu .none (by simp) ?_ (by rw [zN] <;> omega)
 rw [slicePick_cut, <- hlen]
 refine ⟨.ref s.heap.objs.size, _, I.laid (t' := s.toks) (o := .lst (cutV xs lo hi)) (fun b ob q => Heap.get?_push_of_some _ q) (zG _) ?_, rfl, q _ (I.hok.fresh (zG _))⟩
 exact ⟨ze (cutV_length xs lo hi) hz, _, 0, (r.drop (HT.sIx xs.length 0 lo)).take (HT.sIx xs.length xs.length hi - HT.sIx xs.length 0 lo), Heap.get?_push_size _ rfl⟩
def flatV : V -> Bool
 | .non => true
 | .bl _ => true
 | .int _ => true
 | .str _ => true
 | _ => false
def eqV : V -> V -> Bool
 | .non, .non => true
 | .bl a, .bl b => a == b
 | .bl a, .int b => (if a then 1 else 0) == b
 | .int a, .bl b => a == (if b then 1 else 0)
 | .int a, .int b => a == b
 | .str a, .str b => a == b
 | _, _ => false
theorem eqAt_V {A : Around} {s : Shared} {y x : V} {u v : Value} (ry : RelV y u) (rx : RelV x v) (fy : flatV y = true) (fx : flatV x = true) : SeqAt.EqAt A s u v (eqV y x) := by
 cases y with
 | non =>
  cases ry
  cases x with
  | non => cases rx; exact SeqAt.EqAt.same _
  | bl b => cases rx; exact SeqAt.EqAt.none_bool b
  | int b => obtain ⟨t, rfl⟩ := rx; exact SeqAt.EqAt.none_int b t
  | str b => obtain ⟨t, rfl⟩ := rx; exact SeqAt.EqAt.none_str b t
  | _ => exact absurd (show false = true from fx) zJ
 | bl a =>
  cases ry
  cases x with
  | non => cases rx; exact SeqAt.EqAt.bool_none a
  | bl b => cases rx; exact SeqAt.EqAt.bool_bool a b
  | int b => obtain ⟨t, rfl⟩ := rx; exact SeqAt.EqAt.bool_int a b t
  | str b => obtain ⟨t, rfl⟩ := rx; exact SeqAt.EqAt.bool_str a b t
  | _ => exact absurd (show false = true from fx) zJ
 | int a =>
  obtain ⟨t', rfl⟩ := ry
  cases x with
  | non => cases rx; exact SeqAt.EqAt.int_none a t'
  | bl b => cases rx; exact SeqAt.EqAt.int_bool a t' b
  | int b => obtain ⟨t, rfl⟩ := rx; exact SeqAt.EqAt.int_int a t' b t
  | str b => obtain ⟨t, rfl⟩ := rx; exact SeqAt.EqAt.int_str a t' b t
  | _ => exact absurd (show false = true from fx) zJ
 | str a =>
  obtain ⟨t', rfl⟩ := ry
  cases x with
  | non => cases rx; exact SeqAt.EqAt.str_none a t'
  | bl b => cases rx; exact SeqAt.EqAt.str_bool a t' b
  | int b => obtain ⟨t, rfl⟩ := rx; exact SeqAt.EqAt.str_int a t' b t
  | str b => obtain ⟨t, rfl⟩ := rx; exact SeqAt.EqAt.str_str a t' b t
  | _ => exact absurd (show false = true from fx) zJ
 | _ => exact absurd (show false = true from fy) zJ
def eqU (x : V) (u : Value) : Bool := match u with
 | .none => eqV .non x
 | .bool b => eqV (.bl b) x
 | .int i _ => eqV (.int i) x
 | .str z _ => eqV (.str z) x
 | _ => false
theorem eqU_of {x y : V} {u : Value} (r : RelV y u) (f : flatV y = true) : eqU x u = eqV y x := by
 cases y with
 | non => cases r; rfl
 | bl b => cases r; rfl
 | int i => obtain ⟨t, rfl⟩ := r; rfl
 | str z => obtain ⟨t, rfl⟩ := r; rfl
 | _ => exact absurd (show false = true from f) zJ
theorem any_eqU {x : V} : ∀ {xs : List V} {us : List Value}, Vals xs us -> xs.all flatV = true -> us.any (eqU x) = xs.any fun y => eqV y x
 | _, _, .nil, _ => rfl
 | y :: xs, u :: us, .cons r t, f => by
  rw [List.all_cons, zr] at f
  rw [yg, yg, eqU_of r f.1, any_eqU t f.2]
theorem mem_eqAt {A : Around} {s : Shared} {x : V} {v : Value} (rx : RelV x v) (fx : flatV x = true) : ∀ {xs : List V} {us : List Value}, Vals xs us -> xs.all flatV = true -> ∀ u ∈ us, SeqAt.EqAt A s u v (eqU x u)
 | _, _, .nil, _ => fun u hu => by cases hu
 | y :: xs, u :: us, .cons r t, f => fun u' hu => by
  rw [List.all_cons, zr] at f
  rcases zR.mp hu with rfl | hu
  ·rw [eqU_of r f.1]; exact eqAt_V r rx f.1 fx
  ·exact mem_eqAt rx fx t f.2 u' hu
def inV (x : V) (xs : List V) : Bool := xs.any fun y => eqV y x
def rIn (K : PySem.W.Frag) (neg : Bool) : R2 := fun x y H Q => ∃ p xs, y = .ref p /\ (SqL K H p xs \/ SqT K H p xs) /\ flatV x = true /\ xs.all flatV = true /\ Q (.bl (if neg then !inV x xs else inV x xs)) H
theorem op_in_seq : OpR X (compareOp .In) (rIn X.K false) := by
 intro pins s σ H x y v u Q I rx ry h
 obtain ⟨p, xs, rfl, hq, fx, fs, q⟩ := h
 cases ry
 rcases hq with hq | hq
 ·obtain ⟨its, r, pl, hz⟩ := I.list hq
  refine SeqAt.in_listAt (eqU x) pl.isList (fun w hw => mem_eqAt rx fx r fs w (by simpa using hw)) ⟨.bl _, H, I, rfl, ?_⟩
  rw [show its.toArray.any (eqU x) = its.any (eqU x) by simp, any_eqU r fs]
  exact q
 ·obtain ⟨its, r, pl, hz⟩ := I.tuple hq
  refine SeqAt.in_tupleAt (eqU x) pl (fun w hw => mem_eqAt rx fx r fs w (by simpa using hw)) ⟨.bl _, H, I, rfl, ?_⟩
  rw [show its.toArray.any (eqU x) = its.any (eqU x) by simp, any_eqU r fs]
  exact q
theorem op_notIn_seq : OpR X (compareOp .NotIn) (rIn X.K true) := by
 intro pins s σ H x y v u Q I rx ry h
 obtain ⟨p, xs, rfl, hq, fx, fs, q⟩ := h
 cases ry
 rcases hq with hq | hq
 ·obtain ⟨its, r, pl, hz⟩ := I.list hq
  refine SeqAt.notIn_listAt (eqU x) pl.isList (fun w hw => mem_eqAt rx fx r fs w (by simpa using hw)) ⟨.bl _, H, I, rfl, ?_⟩
  rw [show its.toArray.any (eqU x) = its.any (eqU x) by simp, any_eqU r fs]
  exact q
 ·obtain ⟨its, r, pl, hz⟩ := I.tuple hq
  refine SeqAt.notIn_tupleAt (eqU x) pl (fun w hw => mem_eqAt rx fx r fs w (by simpa using hw)) ⟨.bl _, H, I, rfl, ?_⟩
  rw [show its.toArray.any (eqU x) = its.any (eqU x) by simp, any_eqU r fs]
  exact q
theorem call_len_seq : CallR X (.builtin "len") (fun xs H Q => ∃ p ys, xs = [.ref p] /\ (SqL X.K H p ys \/ SqT X.K H p ys) /\ Q (.int ys.length) H) := by
 intro pins s σ H xs us Q I r h
 obtain ⟨p, ys, rfl, hq, q⟩ := h
 obtain ⟨u, rfl, rx⟩ := vals1 r
 cases rx
 have hn := line63
 rcases hq with hq | hq
 ·obtain ⟨its, r', pl, hz⟩ := I.list hq
  have hlen := r'.length
  exact Calls.call_len_list pl.isList (by simp only [zN] <;> omega) ⟨.int ys.length, H, I.tok _, ⟨s.toks + 1, by rw [zN, hlen]⟩, q⟩
 ·obtain ⟨its, r', pl, hz⟩ := I.tuple hq
  have hlen := r'.length
  exact len_tuple pl (by simp only [zN] <;> omega) ⟨.int ys.length, H, I.tok _, ⟨s.toks + 1, by rw [zN, hlen]⟩, q⟩
theorem call_list_of : CallR X (.type "list") (fun xs H Q => ∃ p ys, xs = [.ref p] /\ (SqL X.K H p ys \/ SqT X.K H p ys) /\ ∀ l, H l = none -> Q (.ref l) (upd H l (.lst ys))) := by
 intro pins s σ H xs us Q I r h
 obtain ⟨p, ys, rfl, hq, q⟩ := h
 obtain ⟨u, rfl, rx⟩ := vals1 r
 cases rx
 have fin : ∀ (its : List Value), Vals ys its -> ys.length <= sizeLine -> ∀ (h' : Heap) (c' : Nat), (∀ b o', s.heap.get? b = some o' -> h'.get? b = some o') ->
   h'.get? s.heap.objs.size = some { cls := .type "list", dict := none, data := .seq its.toArray c', slots := #[] } -> EP X pins σ Q (.ref s.heap.objs.size) { s with heap := h' } := fun its r' hz h' c' kp e =>
  ⟨.ref s.heap.objs.size, _, I.laid (t' := s.toks) kp (zG _) (show ObjOk X.prog X.w _ h' _ (.lst ys) from ⟨hz, its, c', r', e⟩), rfl, q _ (I.hok.fresh (zG _))⟩
 rcases hq with hq | hq
 ·obtain ⟨its, r', pl, hz⟩ := I.list hq
  have hlen := r'.length
  obtain ⟨o, ho, hc, n, hd⟩ := pl.isList
  exact call_list_seq p (.inl rfl) ho hc hd (fun h' c' kp e => fin its r' hz h' c' kp e) (by simp only [zN] <;> omega)
 ·obtain ⟨its, r', pl, hz⟩ := I.tuple hq
  have hlen := r'.length
  obtain ⟨o, ho, hc, n, hd⟩ := pl
  exact call_list_seq p (.inr rfl) ho hc hd (fun h' c' kp e => fin its r' hz h' c' kp e) (by simp only [zN] <;> omega)
theorem call_tuple_of : CallR X (.type "tuple") (fun xs H Q => ∃ p ys, xs = [.ref p] /\ ((SqL X.K H p ys /\ ∀ l, H l = none -> Q (.ref l) (upd H l (.tup ys))) \/ (SqT X.K H p ys /\ Q (.ref p) H))) := by
 intro pins s σ H xs us Q I r h
 obtain ⟨p, ys, rfl, h⟩ := h
 obtain ⟨u, rfl, rx⟩ := vals1 r
 cases rx
 rcases h with ⟨hq, q⟩ | ⟨hq, q⟩
 ·obtain ⟨its, r', pl, hz⟩ := I.list hq
  have hlen := r'.length
  refine call_tuple_list pl.isList (fun h' kp => ?_) (by simp only [zN] <;> omega)
  have I1 : Inv X pins σ H { s with heap := h' } := I.kept (t' := s.toks) kp
  have I2 : Inv X pins σ (upd H h'.objs.size (.tup ys)) { s with heap := h'.push { cls := .type "tuple", data := .seq its.toArray } } :=
   I1.laid (t' := s.toks) (fun b o e => Heap.get?_push_of_some _ e) (zG _) (show ObjOk X.prog X.w _ _ _ (.tup ys) from ⟨hz, its, r', IsTup.new _ _⟩)
  exact ⟨.ref h'.objs.size, _, I2, rfl, q _ (I1.hok.fresh (zG _))⟩
 ·obtain ⟨its, r', pl, hz⟩ := I.tuple hq
  exact call_tuple_same pl ⟨.ref p, H, I, rfl, q⟩
def tyV (K : PySem.W.Frag) (T : String) (x : V) (H : Hp) : Prop := match x with
 | .str _ => T = "str"
 | .int _ => T = "int"
 | .ref p => (T = "list" /\ ∃ xs, SqL K H p xs) \/ (T = "tuple" /\ ∃ o, K.lookup p = some o /\ o.cls = .type "tuple" /\ o.dict = none) \/
   (T = "dict" /\ ((∃ kvs, H p = some (.dK kvs)) \/ ∃ kvs, H p = some (.dT kvs))) \/ (T = "set" /\ ∃ S n, H p = some (.set S n))
 | _ => False
theorem tyV_is {pins : List (Addr × Obj)} {σ : St} {H : Hp} {s : Shared} {T : String} {x : V} {v : Value} (I : Inv X pins σ H s) (r : RelV x v) (ty : tyV X.K T x H) :
  s.TypeIs v T /\ ∀ a, v = .ref a -> ∃ ob, s.heap.get? a = some ob /\ ob.dict = none := by
 cases x with
 | str z =>
  obtain ⟨t, rfl⟩ := r
  cases (show T = "str" from ty)
  exact ⟨typeIs_str s z t, fun _ e => nomatch e⟩
 | int i =>
  obtain ⟨t, rfl⟩ := r
  cases (show T = "int" from ty)
  exact ⟨typeIs_int s i t, fun _ e => nomatch e⟩
 | ref p =>
  cases r
  rcases ty with ⟨rfl, xs, hq⟩ | ⟨rfl, o, hk, hc, hd⟩ | ⟨rfl, hk⟩ | ⟨rfl, S, n, hk⟩
  ·obtain ⟨its, _, pl, _⟩ := I.list hq
   refine ⟨pl.isList.typeIs, fun a e => ?_⟩
   cases e
   obtain ⟨o, n, e, c, hd, _⟩ := pl
   exact ⟨o, e, hd⟩
  ·refine ⟨⟨o, I.kIn p o hk, hc⟩, fun a e => ?_⟩
   cases e
   exact ⟨o, I.kIn _ o hk, hd⟩
  ·have z : ∃ o, s.heap.get? p = some o /\ o.ExactDict := by
    rcases hk with ⟨kvs, hk⟩ | ⟨kvs, hk⟩
    ·obtain ⟨_, _, _, _, o, _, _, e, ex, _⟩ := I.hok p _ hk
     exact ⟨o, e, ex⟩
    ·obtain ⟨_, _, _, _, o, _, _, e, ex, _⟩ := I.hok p _ hk
     exact ⟨o, e, ex⟩
   obtain ⟨o, e, ex⟩ := z
   refine ⟨⟨o, e, ex.1⟩, fun a e2 => ?_⟩
   cases e2
   exact ⟨o, e, ex.2.1⟩
  ·obtain ⟨o, _, _, _, e, ex, _⟩ := I.hok p _ hk
   refine ⟨⟨o, e, ex.1⟩, fun a e2 => ?_⟩
   cases e2
   exact ⟨o, e, ex.2.1⟩
 | _ => exact False.elim ty
def tBM0 (K : PySem.W.Frag) (T : String) (r : V -> List V -> Hp -> VK -> Prop) (to : TE) : TE := fun σ H Q => to σ H fun x H1 => tyV K T x H1 /\ r x [] H1 Q
def tBM (K : PySem.W.Frag) (T : String) (r : V -> List V -> Hp -> VK -> Prop) (to : TE) (t : TA) : TE := fun σ H Q => to σ H fun x H1 => tyV K T x H1 /\ t σ H1 fun xs H2 => r x xs H2 Q
variable {o e : Expr} {es : List Expr} {to : TE} {t : TA} {name : Str} {apos cpos : Pos} {T id : String} {r : V -> List V -> Hp -> VK -> Prop}
theorem pe_bm0 (pa : PlainAttrs T) (slot : Slot T name id) (hty : typeOf (.builtin id) = pure (.type "method_descriptor")) (hm : MtR X id r) (ho : PE X o to)
  (hbase : attributeBase o name X.env (eval o X.env) = eval o X.env := by rfl) (hline : (apos.endLine == cpos.line) = true := by rfl) : PE X (.Call (.Attribute o name apos) [] [] cpos) (tBM0 X.K T r to) := by
 intro pins s σ H Q I h
 refine wpAny_Call_method0_late hbase hline (thn (ho pins s σ H _ I h) fun v s1 ⟨x, H1, I1, r1, ty, q1⟩ => ?_)
 obtain ⟨h1, h2⟩ := tyV_is I1 r1 ty
 exact ⟨T, id, pa, slot, hty, h1, h2, Calls.callWith_builtin rfl (PySem.evalArgs_none (hm pins s1 σ H1 x [] v [] Q I1 r1 .nil q1))⟩
theorem pe_bm (pa : PlainAttrs T) (slot : Slot T name id) (hty : typeOf (.builtin id) = pure (.type "method_descriptor")) (hm : MtR X id r) (ho : PE X o to) (ha : PA X (e :: es) t)
  (hbase : attributeBase o name X.env (eval o X.env) = eval o X.env := by rfl)
  (hfew : ((backTo cpos (starEach (e :: es) X.env)).all (fun x => !x.1) && (backToKw cpos (keywordEach [] X.env)).all (fun x => x.1.isSome)
   && decide ((e :: es).length + ([] : List Keyword).length + (if ([] : List Keyword).isEmpty then 0 else 1) < 30)) = true := by rfl)
  (hline : (apos.endLine == cpos.line) = true := by rfl) (hs : starEach (e :: es) X.env = (false, eval e X.env) :: starEach es X.env := by rfl) (hplain : (backTo cpos (starEach es X.env)).any (·.1) = false := by rfl) :
  PE X (.Call (.Attribute o name apos) (e :: es) [] cpos) (tBM X.K T r to t) := by
 intro pins s σ H Q I h
 refine wpAny_Call_method_late hbase hfew hline rfl (thn (ho pins s σ H _ I h) fun v s1 ⟨x, H1, I1, r1, ty, q1⟩ => ?_)
 obtain ⟨h1, h2⟩ := tyV_is I1 r1 ty
 refine ⟨T, id, pa, slot, hty, h1, h2, ?_⟩
 have hA := ha cpos pins s1 σ H1 _ I1 q1
 rw [hs] at hA ⊢
 refine Calls.callWith_builtin (by show (false || (backTo cpos (starEach es X.env)).any (·.1)) = false; rw [hplain] <;> rfl) (Calls.evalArgs_plain ?_)
 exact thn hA fun us s2 ⟨vs, H2, I2, r2, q2⟩ => hm pins s2 σ H2 x vs v us Q I2 r1 r2 q2
/- xs.append(e), list.index on a module's tuple .. are MtR facts of 06m -/
end
end L2
namespace L2
open PySem PySem.Spec PyProof.Rows
def MtM (X : Cx) (id : String) (r : V -> List V -> Hp -> VK -> Prop) : Prop :=
 ∀ (pins : List (Addr × Obj)) (s : Shared) (σ : St) (H : Hp) (x : V) (xs : List V) (v : Value) (us : List Value) (Q : VK), Inv X pins σ H s -> RelV x v -> Vals xs us -> r x xs H Q ->
  wpAny (model X.prog X.w) X.A (call (.builtin id) (v :: us)) (EP X pins σ Q) X.xe s
theorem Vals.one : ∀ {x : V} {us : List Value}, Vals [x] us -> ∃ u, us = [u] /\ RelV x u
 | _, _, .cons r .nil => ⟨_, rfl, r⟩
theorem Vals.zero : ∀ {us : List Value}, Vals [] us -> us = []
 | _, .nil => rfl
theorem Vals.reverse {xs : List V} {us : List Value} (h : Vals xs us) : Vals xs.reverse us.reverse := by
 induction h with
 | nil => exact .nil
 | cons r t ih => rw [List.reverse_cons, List.reverse_cons]; exact Vals.append ih (.cons r .nil)
section
variable {X : Cx} {pins : List (Addr × Obj)} {σ : St} {H : Hp} {s : Shared} {l b : Addr} {xs ys zs : List V}
theorem Inv.lset {its its' : List Value} {n : Nat} {f : Array Value -> Array Value} {t' : Nat} (I : Inv X pins σ H s) (hH : H l = some (.lst xs))
  (e : s.heap.get? l = some { cls := .type "list", data := .seq its.toArray n }) (hf : f its.toArray = its'.toArray) (hv : Vals ys its') (hz : ys.length <= sizeLine) :
  Inv X pins σ (upd H l (.lst ys)) { s with heap := s.heap.update l (Obj.mapSeq f), toks := t' } := by
 have q := PySem.IsL.update e f
 rw [hf] at q
 refine I.write (x := l) (e := l) (by rw [hH]; exact trivial) (.inl rfl) (fun b' u hb hu => (Heap.get?_update_other s.heap (Obj.mapSeq f) (Ne.symm hb)).trans hu) ⟨_, q⟩ ?_
 exact ⟨hz, its', _, hv, q⟩
theorem Inv.lnew {its : List Value} {t' : Nat} (I : Inv X pins σ H s) (hv : Vals ys its) (hz : ys.length <= sizeLine) :
  Inv X pins σ (upd H s.heap.objs.size (.lst ys)) { s with heap := s.heap.push { cls := .type "list", data := .seq its.toArray }, toks := t' } :=
 I.laid (fun _ _ q => Heap.get?_push_of_some _ q) (zG _) ⟨hz, its, 0, hv, Heap.get?_push_size _ rfl⟩
theorem Inv.fresh (I : Inv X pins σ H s) : H s.heap.objs.size = none := I.hok.fresh (zG _)
theorem Inv.lstM (I : Inv X pins σ H s) (hH : H l = some (.lst xs)) : xs.length <= sizeLine /\ ∃ (its : List Value) (n : Nat), Vals xs its /\ xs.length = its.length /\ s.heap.get? l = some { cls := .type "list", data := .seq its.toArray n } := by
 obtain ⟨z, its, n, r, e⟩ := I.hok l _ hH
 exact ⟨z, its, n, r, r.length, e⟩
end
section
variable {X : Cx}
def rAppend : V -> List V -> Hp -> VK -> Prop := fun x vs H Q => ∃ l xs y, x = .ref l /\ vs = [y] /\ H l = some (.lst xs) /\ xs.length < sizeLine /\ Q .non (upd H l (.lst (xs ++ [y])))
theorem mt_append : MtM X "list.append" rAppend := by
 intro pins s σ H x vs v us Q I rx rv h
 obtain ⟨l, xs, y, rfl, rfl, hH, hz, q⟩ := h
 cases rx
 obtain ⟨u, rfl, ru⟩ := rv.one
 obtain ⟨z, its, n, r, hl, e⟩ := I.lstM hH
 refine call_meets F.slot_list_append ⟨_, e, rfl⟩ F.entry_list_append (F.args_list_append_2 _ _) (PySem.list_append l its.toArray n u (by rw [zN]; omega)) ⟨e, ?_⟩
 refine ⟨.non, _, I.lset (its' := its ++ [u]) hH e (by simp) (r.append (.cons ru .nil)) ?_, rfl, q⟩
 rw [zT, List.length_singleton]
 omega
def rReverse : V -> List V -> Hp -> VK -> Prop := fun x vs H Q => ∃ l xs, x = .ref l /\ vs = [] /\ H l = some (.lst xs) /\ Q .non (upd H l (.lst xs.reverse))
theorem mt_reverse : MtM X "list.reverse" rReverse := by
 intro pins s σ H x vs v us Q I rx rv h
 obtain ⟨l, xs, rfl, rfl, hH, q⟩ := h
 cases rx
 have hus := rv.zero
 subst hus
 obtain ⟨z, its, n, r, hl, e⟩ := I.lstM hH
 refine call_meets F.slot_list_reverse ⟨_, e, rfl⟩ F.entry_list_reverse (F.args_list_reverse_1 _) (AutoSeq1.list_reverse_list_0 l its.toArray n (by rw [zN]; omega)) ⟨e, ?_⟩
 refine ⟨.non, _, I.lset (its' := its.reverse) hH e (by simp) r.reverse ?_, rfl, q⟩
 rw [List.length_reverse]
 omega
def rCat : R2 := fun x y H Q => ∃ l b xs zs, x = .ref l /\ y = .ref b /\ H l = some (.lst xs) /\ H b = some (.lst zs) /\ xs.length + zs.length <= sizeLine /\ ∀ p, H p = none -> Q (.ref p) (upd H p (.lst (xs ++ zs)))
theorem op_cat : OpR X (binaryOp .Add) rCat := by
 intro pins s σ H x y v u Q I rx ry h
 obtain ⟨l, b, xs, zs, rfl, rfl, hH, hB, hz, q⟩ := h
 cases rx
 cases ry
 obtain ⟨z, its, n, r, hl, e⟩ := I.lstM hH
 obtain ⟨z2, its2, n2, r2, hl2, e2⟩ := I.lstM hB
 refine PySem.P.add_list e e2 ?_ (by rw [zN, zN]; omega)
 have ea : its.toArray ++ its2.toArray = (its ++ its2).toArray := by simp
 rw [ea]
 exact ⟨.ref _, _, I.lnew (t' := s.toks) (r.append r2) (by rw [zT]; omega), rfl, q _ I.fresh⟩
end
section
variable {prog : Program} {w : World} {A : Around} {E : Value -> Shared -> Prop} {s : Shared}
set_option maxRecDepth 100000 in
end
section
variable {X : Cx}
end
end L2
namespace Att
open PySem PySem.W PySem.Calls PyProof.Rows
theorem ints_of_wellAll {P : Params} {h : Heap} : ∀ (ns : List Int) (vs : List Value), WellAll P h vs (ns.map WData.int) -> IntsAre vs ns := by
 intro ns
 induction ns with
 | nil =>
  intro vs w
  rw [yd] at w
  cases w
  exact .nil
 | cons n ns ih =>
  intro vs w
  rw [zc] at w
  cases w with
  | cons a b =>
   cases a
   exact .cons _ _ (ih _ b)
theorem script_of {l : OpenLaw} {n : Nat} (hn : l.most = some n) {P : Params} {h : Heap} {args : List WData} {vals : List Value}
  (hpre : l.row.toRowW.claim.pre args = true) (hwl : WellAll P h vals args) :
  ∃ a vs ns, vals = [Value.ref a] /\ args = [WData.list (ns.map WData.int)] /\ h.get? a = some { cls := .type "list", data := .seq vs.toArray } /\ IntsAre vs ns /\ ns.length <= n := by
 have hsh : WShape.hasAll [] args [.list .int] = true := (pre_splitW hpre).1
 have hc : l.pre.holds [] { args := args } = true := (pre_splitW hpre).2
 obtain ⟨d, r, rfl, h1, h2⟩ := hasAllW_cons hsh
 obtain rfl := hasAllW_nil h2
 obtain ⟨xs, rfl, h3⟩ := hasW_list h1
 obtain ⟨ns, rfl⟩ := items_int h3
 have hlen : ns.length <= n := by
  unfold OpenLaw.pre at hc
  have h4 : (WTm.not (.lt (.lit (.int (n : Int))) (.len (.arg 0)))).holds [] { args := [.list (ns.map .int)] } = true := by
   have h4 := (holds_andW hc).1
   rw [hn] at h4
   exact h4
  have h5 := condW_of h4 (w_not (w_lt w_lit (w_len_list (w_arg rfl))))
  rw [zA] at h5
  refine Nat.le_of_not_lt fun q => ?_
  have q' : (n : Int) < ((ns.length : Nat) : Int) := by omega
  first
   | (rw [decide_eq_true q'] at h5; exact absurd h5 (by decide))
   | (simp at h5; omega)
 cases hwl with
 | cons w1 w2 =>
  cases w2
  cases w1 with
  | list ho hall => exact ⟨_, _, ns, rfl, rfl, ho, ints_of_wellAll ns _ hall, hlen⟩
theorem post_true (l : OpenLaw) (args : List WData) : l.row.toRowW.claim.post args (.bool true) args = true :=
 postW_of (r := l.row.toRowW) (X := (true == true))
  (show WShape.has [] (.bool true) .bool = true by first | rfl | decide | simp [WShape.has, WShape.arms, WShape.armsAll])
  (show (WTm.eq .res (.lit (.bool true))).value [] { args := args, res := some (.bool true), after := args } = some (.bool (true == true)) from w_eq_bool (w_res rfl) w_lit) rfl
theorem attach_call {l : OpenLaw} {n : Nat} {q : Program} {loose : List Str} {XP : (Str -> Option Value) -> Heap -> Prop} {YP : World -> Heap -> Prop} {d : DefRec}
  (hn : l.most = some n) (hdf : d.params.defaults = [])
  (call : ∀ (w : World) (s₀ s₁ : Shared) (mg mb : Str -> Option Value) (fa : Addr) (o : Obj) (pm cd doc : Value) (a : Addr) (vs : List Value) (ns : List Int),
   Ground q loose [] XP w s₀ mg mb s₁.heap -> YP w s₁.heap ->
   s₁.heap.get? fa = some o -> o.data = .func (docDef d.name d.params d.body d.scope pm cd doc) -> s₁.heap.CodeRec cd d.name -> mg d.name = some (.ref fa) ->
   s₁.heap.get? a = some { cls := .type "list", data := .seq vs.toArray } -> IntsAre vs ns -> ns.length <= n -> s₁.gens = #[] ->
   codeAny (model l.prog w) callerA (.call (.ref fa) ⟨[.ref a], []⟩) (fun r s' => r = .ok (.ret (.bool true)) /\ OldK s₁.heap s'.heap /\ s'.os = s₁.os /\ AllBare s'.gens) s₁) :
  WalkO q loose XP YP l.row.toRowW d [] (fun f vs => PySem.call f vs) := by
 intro w s₀ s₁ mg mb G Y fa o pm cd doc dV kV ho hd hcd hD hmg hg args vals as hpre hlay hrd hwl hlo
 obtain rfl : dV = .none := Dflts.none hD hdf
 obtain rfl : kV = .none := Dflts.noKw hD
 obtain ⟨a, vs, ns, rfl, rfl, hobj, hints, hlen⟩ := script_of hn hpre hwl
 refine enter_call (codeAny_mono (call w s₀ s₁ mg mb fa o pm cd doc a vs ns G Y ho (fd_plain hd) hcd hmg hobj hints hlen hg) fun r s' hq => ?_)
 obtain ⟨rfl, h2, h3, h4⟩ := hq
 exact ⟨.inl ⟨.bool true, .bool true, [], rfl, fun _ => rfl, .bool true, post_true l _, fun _ => ⟨List.Pairwise.nil, fun _ hm => (nomatch hm)⟩⟩, h2, h3, h4⟩
section
variable {prog : Program} {w : World} {A : Around} {E : Value -> Shared -> Prop} {s : Shared} {K : Frag}
def ledger (h : Heap) (L d : Addr) : List (Addr × Obj) := (List.range h.objs.size).filterMap fun a => if a = L \/ a = d then none else (h.get? a).map fun o => (a, o)
end
end Att
namespace L2
open PySem PySem.Spec PyProof.Rows
theorem vals_ints : ∀ {vs : List Value} {ns : List Int}, IntsAre vs ns -> Vals (ns.map V.int) vs
 | _, _, .nil => .nil
 | _, _, .cons n t h => .cons ⟨t, rfl⟩ (vals_ints h)
def Only (H : Hp) : Prop := ∀ b, H b = none \/ ∃ o xs, H b = some (.frz o (.lst xs))
theorem law_call {P : Program} {w : World} {K : PySem.W.Frag} {mg mb : Str -> Option Value} {CX : CXT} {k : Nat} {fa a : Addr} {fd : FuncData} {x : Str} {sp : Sp} {s₁ : Shared} {vs : List Value} {ns : List Int}
  (KX : K.In s₁.heap) (hns : s₁.heap.Ns mainGlobals mg) (hb : s₁.heap.Ns builtinsNs mb) (hbb : ∀ x : Str, x ≠ "__name__" -> mb x = bootBuiltins x) (hlim : s₁.heap.NoLimit) (hg : s₁.gens = #[])
  (ha : s₁.heap.get? a = some { cls := .type "list", data := .seq vs.toArray }) (hi : IntsAre vs ns) (hl : ns.length <= sizeLine) (hr : Room k callerA)
  (F : ∀ base : Heap, K.In base -> base.Ns mainGlobals mg -> FnOk P w K mg base CX k fa fd [x] sp) (hbind : ∀ (s : Shared) (u : Value), BindsTo s fd ⟨[u], []⟩ [(x, u)])
  (hsp : ∀ H : Hp, Only H -> SqL K H a (ns.map V.int) -> sp [.ref a] H (fun v _ => v = .bl true) fun _ _ _ => False)
  (hCX : ∀ H e s', CX [] H s₁ (fun _ _ _ => False) e s' -> False) :
  codeAny (model P w) callerA (.call (.ref fa) ⟨[.ref a], []⟩) (fun r s' => r = .ok (.ret (.bool true)) /\ OldK s₁.heap s'.heap /\ s'.os = s₁.os /\ AllBare s'.gens) s₁ := by
 have rv := vals_ints hi
 have lenV := hi.length
 -- from an abstract heap in which nothing but the script may be tracked
 have core : ∀ H : Hp, Only H -> SqL K H a (ns.map V.int) -> HOk P w H s₁.heap -> (∀ b, H b ≠ none -> b = a) -> (H a ≠ none -> K.lookup a = none) ->
   codeAny (model P w) callerA (.call (.ref fa) ⟨[.ref a], []⟩) (fun r s' => r = .ok (.ret (.bool true)) /\ OldK s₁.heap s'.heap /\ s'.os = s₁.os /\ AllBare s'.gens) s₁ := by
  intro H hO hS hok hA hK
  have base_of : ∀ {b : Addr} {o : Obj}, s₁.heap.get? b = some o -> H b = none -> (hidT s₁.heap H).get? b = some o := fun e n => hidT_get e n
  have noA : ∀ {b : Addr} {o : Obj} {es : Array DictEntry} {ep : Nat}, s₁.heap.get? b = some o -> o.data = .dict es ep -> H b = none := fun {b o es ep} e d => by
   cases q : H b with
   | none => rfl
   | some u =>
    have e' : b = a := hA b (by rw [q]; simp)
    subst e'
    rw [ha] at e; cases e
    have d' : Data.seq vs.toArray _ = Data.dict es ep := d
    cases d'
  have nsK : ∀ {b : Addr} {m : Str -> Option Value}, s₁.heap.Ns b m -> (hidT s₁.heap H).Ns b m := fun {b m} ⟨o, es, ep, e, d, r⟩ => ⟨o, es, ep, base_of e (noA e d), d, r⟩
  have hKb : K.In (hidT s₁.heap H) := fun b o e => base_of (KX b o e) (by
   cases q : H b with
   | none => rfl
   | some u =>
    have e' : b = a := hA b (by rw [q]; simp)
    subst e'
    rw [hK (by rw [q]; simp)] at e; cases e)
  have hM : Mod K mg (hidT s₁.heap H) := ⟨hKb, nsK hns, ⟨mb, nsK hb, hbb⟩, let ⟨mc, h1, h2⟩ := hlim; ⟨mc, nsK h1, h2⟩⟩
  have e0 : Env0 P w K mg (hidT s₁.heap H) callerA [] s₁ H := ⟨rfl, hM, fun b o e => of_hidT e, Nat.le_of_eq (hidT_size _ _), trivial, fun b hb => absurd (show b ∈ ([] : List Addr) from hb) (by simp), hok, .of_eq hg⟩
  refine codeAny_mono ((F _ hKb (nsK hns)).run callerA [] s₁ H ⟨[.ref a], []⟩ [.ref a] [.ref a] _ _ hr e0 (hbind s₁ (.ref a)) (.cons rfl .nil) (hsp H hO hS)) fun r s' h => ?_
  cases r with
  | error e => exact (hCX H e s' h).elim
  | ok fl =>
   cases fl with
   | next => exact False.elim h
   | brk => exact False.elim h
   | cont => exact False.elim h
   | ret u =>
    obtain ⟨v, H', os, bare, un, hok', r', q⟩ := h
    have q' : v = .bl true := q
    subst q'
    obtain rfl : u = Value.bool true := r'
    refine ⟨rfl, OldK.of_keep fun b o e => ?_, os, bare⟩
    cases q : H b with
    | none => exact un.keep b o e q (by intro z; exact absurd (show b ∈ ([] : List Addr) from z) (by simp)) (by simp)
    | some u =>
     rcases hO b with z | ⟨ob, xs, z⟩
     ·rw [q] at z; cases z
     ·have z2 := un.frzs b ob _ z
      obtain ⟨e1, _⟩ := hok b _ z
      obtain ⟨e2, _⟩ := hok' b _ z2
      rw [e] at e1; cases e1
      exact e2
 cases hk : K.lookup a with
 | some o =>
  -- the script is one of the module's own objects
  have e := KX a o hk
  rw [ha] at e
  cases e
  refine core (fun _ => none) (fun _ => .inl rfl) (.inr ⟨_, vs.toArray, _, hk, rfl, rfl, rfl, by rw [zN, lenV]; exact hl, by simpa using rv⟩) (fun b u z => by have z' : (none : Option HO) = some u := z; cases z') (fun b z => absurd rfl z) fun z => absurd rfl z
 | none =>
  refine core (fun b => if b = a then some (.frz { cls := .type "list", data := .seq vs.toArray } (.lst (ns.map V.int))) else none) (fun b => ?_) (.inl (.inr ⟨{ cls := .type "list", data := .seq vs.toArray }, if_pos rfl⟩)) (fun b u z => ?_) (fun b z => ?_) fun _ => hk
  ·by_cases hb : b = a
   ·exact .inr ⟨_, _, if_pos hb⟩
   ·exact .inl (if_neg hb)
  ·by_cases hb : b = a
   ·have z' := (if_pos hb).symm.trans z
    cases z'
    subst hb
    exact ⟨ha, by rw [zA]; exact hl, vs, _, rv, ha⟩
   ·have z' := (if_neg hb).symm.trans z
    cases z'
  ·by_cases hb : b = a
   ·exact hb
   ·exact absurd (if_neg hb) z
end L2
namespace L2
open PySem PySem.Spec PyProof.Rows
theorem walk_of {l : PySem.W.OpenLaw} {n k : Nat} {q : Program} {loose : List Str} {XP : (Str -> Option Value) -> Heap -> Prop} {YP : World -> Heap -> Prop} {d : DefRec} {K : Params -> PySem.W.Frag} {CX : World -> CXT} {sp : World -> Sp} {x : Str}
  (hn : l.most = some n) (hn2 : n <= sizeLine) (hdf : d.params.defaults = []) (hr : Room k callerA)
  (hY : ∀ (w : World) (h : Heap), YP w h -> (K w.params).In h)
  (F : ∀ (w : World) (mg : Str -> Option Value) (fa : Addr) (h : Heap), (K w.params).In h -> h.Ns mainGlobals mg -> mg d.name = some (.ref fa) ->
   ∃ fd : FuncData, (∀ (s : Shared) (u : Value), BindsTo s fd ⟨[u], []⟩ [(x, u)]) /\
    ∀ base : Heap, (K w.params).In base -> base.Ns mainGlobals mg -> FnOk l.prog w (K w.params) mg base (CX w) k fa fd [x] (sp w))
  (hsp : ∀ (w : World) (H : Hp) (a : Addr) (ns : List Int), ns.length <= n -> Only H -> SqL (K w.params) H a (ns.map V.int) -> sp w [.ref a] H (fun v _ => v = .bl true) fun _ _ _ => False)
  (hCX : ∀ (w : World) (H : Hp) (s : Shared) (e : Value) (s' : Shared), CX w [] H s (fun _ _ _ => False) e s' -> False) :
  PySem.W.WalkO q loose XP YP l.row.toRowW d [] (fun f vs => PySem.call f vs) := by
 refine Att.attach_call hn hdf fun w s₀ s₁ mg mb fa o pm cd doc a vs ns G Y ho hd hcd hmg hobj hints hlen hg => ?_
 have KX := hY w _ Y
 obtain ⟨fd, hb, hF⟩ := F w mg fa _ KX G.T.g hmg
 exact law_call KX G.T.g G.T.b G.T.builtins G.T.nolimit hg hobj hints (ze hlen hn2) hr hF hb (fun H hO hS => hsp w H a ns hlen hO hS) fun H e s' => hCX w H s₁ e s'
end L2
namespace L2
open PySem PySem.Spec PyProof.Rows
def inClass (s : Stmt) (j : Nat) : Stmt := match s with
 | .ClassDef _ _ _ body _ _ _ _ _ _ _ => body.getD j (.Pass ⟨0, 0, 0, 0⟩)
 | _ => .Pass ⟨0, 0, 0, 0⟩
def defArgs (s : Stmt) : Arguments := match s with
 | .FunctionDef _ a _ _ _ _ _ _ _ _ => a
 | _ => { posonlyargs := [], args := [], vararg := none, kwonlyargs := [], kw_defaults := [], kwarg := none, defaults := [] }
def defBody (s : Stmt) : List Stmt := match s with
 | .FunctionDef _ _ b _ _ _ _ _ _ _ => b
 | _ => []
def defScope (s : Stmt) : Scope := match s with
 | .FunctionDef _ _ _ _ _ _ sc _ _ _ => sc
 | _ => { kind := .function, names := [], isGenerator := false, isCoroutine := false }
abbrev CX0 : CXT := fun _ _ _ _ _ _ => False
abbrev E0 : XK := fun _ _ _ => False
theorem pass0 {X : Cx} : Passes CX0 X E0 := fun _ _ _ _ _ _ _ h => h.elim
structure Fun (K : PySem.W.Frag) (x qual : Str) (st : Stmt) (f : Addr) (fd : FuncData) : Prop where
 ex : ∃ (oc : Value) (od : Option Addr) (kV doc pm : Value) (an : Option Addr) (cdv ct : Value) (osl : Array (Option Value)),
  fd = yj x qual (defArgs st) (defBody st) (defScope st) .none kV doc pm an cdv ct /\ K.lookup f = some ⟨oc, od, .func fd, osl⟩ /\ PySem.W.codeIn K cdv qual = true
 kp : zI K (.ref f) = true
section
variable {P : Program} {w : World} {K : PySem.W.Frag} {mg : Str -> Option Value} {base : Heap}
theorem Fun.ok {x qual : Str} {st : Stmt} {f : Addr} {fd : FuncData} {N ps : List Str} {k : Nat} {sp : Sp} (F : Fun K x qual st f fd) (S : FnScope N ps (defScope st)) (len : ∀ vs H Q E, sp vs H Q E -> vs.length = ps.length)
  (hbody : ∀ (cdv : Value) (A : Around) (outer : List Env) (s : Shared) (H : Hp) (vs : List V) (Q : VK) (E : XK), Room k (A.deeper (envOfC qual (defScope st) s.heap.objs.size f cdv)) -> sp vs H Q E ->
   ∃ t, PSs (cxOf CX0 P w K mg base N qual (defScope st) f cdv A outer s H E).nox (defBody st) t /\ t { nx := fun _ H' => Q .non H', rt := Q } (start N vs) H) : FnOk P w K mg base CX0 (k + 1) f fd ps sp := by
 obtain ⟨oc, od, kV, doc, pm, an, cdv, ct, osl, rfl, lk, hcd⟩ := F.ex
 refine fn_of lk hcd S len fun A outer s H vs Q E hr hsp => ?_
 obtain ⟨t, h, q⟩ := hbody cdv A outer s H vs Q E hr hsp
 exact ⟨t, h.nox, q⟩
theorem Fun.binds {x qual : Str} {st : Stmt} {f : Addr} {fd : FuncData} {ps : List Str} (F : Fun K x qual st f fd)
  (h : ∀ (kV doc pm : Value) (an : Option Addr) (cdv ct : Value) (us : List Value), us.length = ps.length -> bindArgs (yj x qual (defArgs st) (defBody st) (defScope st) .none kV doc pm an cdv ct) ⟨us, []⟩ = pure (ps.zip us)) : Binds K fd ps [] := by
 obtain ⟨oc, od, kV, doc, pm, an, cdv, ct, osl, rfl, lk, hcd⟩ := F.ex
 exact .all (h kV doc pm an cdv ct)
theorem fun_mk {x qual : Str} {st : Stmt} {f : Addr} {oc : Value} {od an : Option Addr} {osl : Array (Option Value)} {kV doc pm cdv ct : Value} (l : K.lookup f = some ⟨oc, od, .func (yj x qual (defArgs st) (defBody st) (defScope st) .none kV doc pm an cdv ct), osl⟩)
  (c : PySem.W.codeIn K cdv qual = true) (k : zI K (.ref f) = true) : Fun K x qual st f (yj x qual (defArgs st) (defBody st) (defScope st) .none kV doc pm an cdv ct) := ⟨⟨oc, od, kV, doc, pm, an, cdv, ct, osl, rfl, l, c⟩, k⟩
end
section
variable {X : Cx}
theorem pv (i : Nat) {x : Str} {pos : Pos} (hN : X.N[i]? = some x := by rfl) (hv : Vis X.env.scope x := by first | exact Or.inl rfl | exact Or.inr (Or.inl rfl) | exact Or.inr (Or.inr rfl)) (hd : (x == ("__debug__" : Str)) = false := by decide)
  (hcd : (x == ("__classdict__" : Str)) = false := by decide) : PE X (.Name x pos) (tVar i) := pe_var hN hv hd hcd
end
def Same (H H' : Hp) : Prop := ∀ b o, H b = some o -> H' b = some o
theorem Same.refl (H : Hp) : Same H H := fun _ _ h => h
theorem Same.trans {H H1 H2 : Hp} (a : Same H H1) (b : Same H1 H2) : Same H H2 := fun c o h => b c o (a c o h)
theorem Same.free {H H' : Hp} (e : Same H H') {l : Addr} (h : H' l = Option.none) : H l = Option.none := by
 cases q : H l with
 | none => rfl
 | some o =>
  rw [e l o q] at h
  cases h
theorem Same.seq {K : PySem.W.Frag} {H H' : Hp} {a : Addr} {xs : List V} (e : Same H H') (h : SqL K H a xs) : SqL K H' a xs := by
 rcases h with (h | ⟨o, h⟩) | h
 ·exact .inl (.inl (e _ _ h))
 ·exact .inl (.inr ⟨o, e _ _ h⟩)
 ·exact .inr h
end L2
set_option Elab.async false
set_option linter.all false
set_option maxRecDepth 100000
set_option maxHeartbeats 4000000
namespace L2
open PySem PySem.Spec PyProof.Rows
theorem loop_comp {prog : Program} {w : World} {A : Around} {R : Result -> Shared -> Prop} {s : Shared} {elt target iter : Expr} {ifs : List Expr} {scope : Scope} {pos : Pos} {it acc : Value} {env : Env} (I : Nat -> Shared -> Prop)
  (turn : ∀ n s, I n s -> wpAny (model prog w) A (pyNext it) (fun r s₁ => match r with
   | none => R (.ok .next) s₁
   | some v => wpAny (model prog w) A (letOwnedTupleGo target it v) (fun _ s₁' => wpAny (model prog w) A (assign target env v) (fun _ s₂ =>
     wpAny (model prog w) A (forIn ifs true fun c r => if r = true then do let ok <- isTrue c env (eval c env); pure (ForInStep.yield ok) else pure (ForInStep.yield r)) (fun ok s₃ =>
      if ok = true then wpAny (model prog w) A (eval elt env) (fun x s₄ =>
       wpAny (model prog w) A (call (.builtin "list.append") [acc, x]) (fun _ s₅ => ∃ m, m < n /\ I m s₅) (fun _ _ => False) s₄) (fun _ _ => False) s₃
      else ∃ m, m < n /\ I m s₃) (fun _ _ => False) s₂) (fun _ _ => False) s₁') (fun _ _ => False) s₁) (fun _ _ => False) s)
  (n : Nat) (h : I n s) :
  codeAny (model prog w) A (.compLoop (.ListComp elt [⟨target, iter, ifs, 0⟩] scope pos) 0 it acc env) R s := by
 refine codeAny_loop rfl I (fun n s hI => ?_) n h
 show wpAny _ A ((compTurn (.ListComp elt [⟨target, iter, ifs, 0⟩] scope pos) 0 it acc env).onRaise (fun x => do noteFrame x env; theTreesLotGoes x)) _ _ s
 refine wpAny_noted ?_
 rw [compTurn_list]
 refine wpAny_bind (wpAny_standAt (wpAny_bind (wpAny_mono (turn n s hI) (fun r s₁ h₁ => ?_) fun _ _ h' => h'.elim)))
 cases r with
 | none => exact wpAny_pure h₁
 | some v =>
  refine wpAny_bind (wpAny_mono h₁ (fun _ s₁' h₁' => ?_) fun _ _ h' => h'.elim)
  refine wpAny_bind (wpAny_mono h₁' (fun _ s₂ h₂ => wpAny_bind (wpAny_mono h₂ (fun ok s₃ h₃ => ?_) fun _ _ h' => h'.elim)) fun _ _ h' => h'.elim)
  cases ok with
  | false => exact wpAny_pure ⟨rfl, h₃⟩
  | true =>
   exact wpAny_bind (wpAny_bind (wpAny_mono h₃ (fun x s₄ h₄ => wpAny_bind (wpAny_mono h₄ (fun _ s₅ h₅ => wpAny_pure (wpAny_pure ⟨rfl, h₅⟩)) fun _ _ h' => h'.elim)) fun _ _ h' => h'.elim))
def clOf (names : List (Str × NameKind)) (env : Env) (cs : List (Str × Addr)) : List (Str × Addr) :=
 names.foldl (fun cs p => if p.2 = .free then (match env.cells.lookup p.1 with | some c => (p.1, c) :: cs | none => cs) else cs) cs
theorem closure_loop {env : Env} : ∀ (names : List (Str × NameKind)) (cs : List (Str × Addr)), (∀ y ∈ names, y.2 = .free -> ∃ c, env.cells.lookup y.1 = some c) ->
  (forIn names cs fun x r => (if (x.2 == NameKind.free) = true then do let a <- cellOf env x.1; pure (ForInStep.yield ((x.1, a) :: r)) else pure (ForInStep.yield r) : Sem _)) = pure (clOf names env cs)
 | [], cs, _ => by simp [clOf]
 | (n, k) :: r, cs, h => by
  have ih := fun cs => closure_loop r cs fun y hy => h y (zh _ hy)
  simp only [List.forIn_cons]
  by_cases hk : k = .free
  ·subst hk
   obtain ⟨c, e⟩ := h (n, .free) yU rfl
   have e' : env.cells.lookup n = some c := e
   have ec : cellOf env n = pure c := by unfold cellOf; rw [e']
   simp only [beq_self_eq_true, if_true, ec, pure_bind]
   rw [ih]
   simp [clOf, e']
  ·have hb : (k == NameKind.free) = false := by simpa using hk
   simp only [hb, Bool.false_eq_true, if_false, pure_bind]
   rw [ih]
   simp [clOf, hk]
theorem closureFor_eq {scope : Scope} {env : Env} (h : ∀ y ∈ scope.names, y.2 = .free -> ∃ c, env.cells.lookup y.1 = some c) : closureFor scope env = pure (clOf scope.names env []) := by
 unfold closureFor
 have := closure_loop scope.names [] h
 simp only [bind_pure]
 exact this
theorem clOf_mem {env : Env} : ∀ (names : List (Str × NameKind)) (cs : List (Str × Addr)) (x : Str) (c : Addr), (x, c) ∈ clOf names env cs -> (x, c) ∈ cs \/ env.cells.lookup x = some c
 | [], cs, x, c, h => .inl h
 | (n, k) :: r, cs, x, c, h => by
  have h' : (x, c) ∈ clOf r env (if k = .free then (match env.cells.lookup n with | some c => (n, c) :: cs | none => cs) else cs) := h
  rcases clOf_mem r _ x c h' with q | q
  ·split at q
   ·cases e : env.cells.lookup n with
    | none => rw [e] at q; exact .inl q
    | some d =>
     rw [e] at q
     rcases zR.mp q with z | z
     ·cases z; exact .inr e
     ·exact .inl z
   ·exact .inl q
  ·exact .inr q
theorem clOf_keep {env : Env} : ∀ (names : List (Str × NameKind)) (cs : List (Str × Addr)) (x : Str), (∃ c, (x, c) ∈ cs) -> ∃ c, (x, c) ∈ clOf names env cs
 | [], cs, x, h => h
 | (n, k) :: r, cs, x, ⟨c, h⟩ => by
  refine clOf_keep r _ x ?_
  dsimp only
  split
  ·split
   ·exact ⟨c, zh _ h⟩
   ·exact ⟨c, h⟩
  ·exact ⟨c, h⟩
theorem clOf_has {env : Env} : ∀ (names : List (Str × NameKind)) (cs : List (Str × Addr)) (x : Str), (x, NameKind.free) ∈ names -> (∃ c, env.cells.lookup x = some c) -> ∃ c, (x, c) ∈ clOf names env cs
 | [], _, _, h, _ => by simp at h
 | (n, k) :: r, cs, x, h, ⟨c, e⟩ => by
  rcases zR.mp h with z | z
  ·have e1 : x = n := congrArg Prod.fst z
   have e2 : NameKind.free = k := congrArg Prod.snd z
   subst e1 e2
   refine clOf_keep r _ x ⟨c, ?_⟩
   dsimp only
   rw [if_pos rfl, e]
   exact yU
  ·exact clOf_has r _ x z ⟨c, e⟩
theorem lookup_of_mem {β : Type} : ∀ (l : List (Str × β)) (x : Str) (c : β), (x, c) ∈ l -> ∃ d, l.lookup x = some d
 | (n, d) :: r, x, c, h => by
  cases hx : x == n with
  | true => exact ⟨d, by simp [yI, hx]⟩
  | false =>
   simp only [yI, hx]
   rcases zR.mp h with z | z
   ·cases z; simp at hx
   ·exact lookup_of_mem r x c z
theorem xW {names : List (Str × NameKind)} {env : Env} {x : Str} {c : Addr} (h : (clOf names env []).lookup x = some c) : env.cells.lookup x = some c := by
 rcases clOf_mem names [] x c (zu h) with q | q
 ·simp at q
 ·exact q
theorem clOf_some {names : List (Str × NameKind)} {env : Env} {x : Str} {c : Addr} (h : (x, NameKind.free) ∈ names) (e : env.cells.lookup x = some c) : (clOf names env []).lookup x = some c := by
 obtain ⟨d, hd⟩ := clOf_has names [] x h ⟨c, e⟩
 obtain ⟨d', hd'⟩ := lookup_of_mem _ _ _ hd
 have := xW hd'
 rw [e] at this
 cases this
 exact hd'
theorem lookup_relabel_free {env : Env} : ∀ {names : List (Str × NameKind)} {x : Str}, names.lookup x = some .free ->
  (names.map fun (n, k) => if (k == NameKind.free && env.scope.kind == .function && env.kindOf n == some .cell) then (n, NameKind.cell) else (n, k)).lookup x = some .cell \/
  (names.map fun (n, k) => if (k == NameKind.free && env.scope.kind == .function && env.kindOf n == some .cell) then (n, NameKind.cell) else (n, k)).lookup x = some .free
 | [], _, h => by simp at h
 | (n, k) :: r, x, h => by
  have ih := @lookup_relabel_free env r x
  show yS x ((if (k == NameKind.free && env.scope.kind == .function && env.kindOf n == some .cell) = true then (n, NameKind.cell) else (n, k)) :: _) = _ \/ yS x ((if (k == NameKind.free && env.scope.kind == .function && env.kindOf n == some .cell) = true then (n, NameKind.cell) else (n, k)) :: _) = _
  by_cases hc : (k == NameKind.free && env.scope.kind == .function && env.kindOf n == some .cell) = true
  ·rw [if_pos hc]
   cases hx : x == n with
   | true => left; simp [yI, hx]
   | false =>
    simp only [yI, hx] at h ⊢
    exact ih h
  ·rw [if_neg hc]
   cases hx : x == n with
   | true =>
    simp only [yI, hx] at h
    cases h
    right; simp [yI, hx]
   | false =>
    simp only [yI, hx] at h ⊢
    exact ih h
structure CompScope (own : List Str) (caps : List Nat) (N : List Str) (sc scope : Scope) : Prop where
 kind : scope.kind = .function
 nocell : ∀ y ∈ scope.names, y.2 ≠ .cell
 loc : ∀ y ∈ scope.names, y.2 = .local -> scope.names.lookup y.1 = some .local
 fr : ∀ y ∈ scope.names, y.2 = .free -> sc.names.lookup y.1 = some .cell \/ sc.names.lookup y.1 = some .free
 cap : ∀ i ∈ caps, i < N.length /\ scope.names.lookup ((N[i]?).getD Str.empty) = some .free
def cxComp (X : Cx) (own : List Str) (caps : List Nat) (scope : Scope) (s : Shared) (H : Hp) (fp : List Addr) (C : Addr) : Cx :=
 { X with N := own ++ caps.map (fun i => (X.N[i]?).getD Str.empty), s₀ := s, H₀ := H, env := compEnvC scope (clOf scope.names X.env []) C X.env, outer := X.stack, ex := fp, fn := fun _ => false, pn := [], xe := fun _ _ => False }
def tau0 (n : Nat) (caps : List Nat) (σ : St) : St := List.replicate n none ++ caps.map fun i => (σ[i]?).join
section
variable {X : Cx} {pins : List (Addr × Obj)} {σ : St} {H : Hp} {s : Shared}
theorem free_of_kind {scope : Scope} {env : Env} (nc : ∀ y ∈ scope.names, y.2 ≠ .cell) {x : Str} {k : NameKind} (hk : k = .cell \/ k = .free) (h : (relabel scope env).names.lookup x = some k) : (x, NameKind.free) ∈ scope.names := by
 have hm := zu h
 obtain ⟨⟨n, k0⟩, hy, e⟩ := zQ.mp hm
 dsimp only at e
 split at e
 ·rename_i hc
  simp only [zr, beq_iff_eq] at hc
  have e1 : n = x := congrArg Prod.fst e
  subst e1
  rw [hc.1.1] at hy
  exact hy
 ·cases e
  rcases hk with z | z
  ·subst z; exact absurd rfl (nc _ hy)
  ·subst z; exact hy
theorem inv_comp {own : List Str} {caps : List Nat} {scope : Scope} {fp : List Addr} {D C : Addr} {o : Obj} {h1 : Heap} {tk : Nat} (I : Inv X pins σ H s) (S : CompScope own caps X.N X.env.scope scope)
  (f : ∀ b ∈ fp, FpOk X pins H b) (fl : ∀ b ∈ fp, b < s.heap.objs.size) (hD : s.heap.objs.size <= D) (hC : s.heap.objs.size <= C) (hDC : D ≠ C) (keep : ∀ b o, s.heap.get? b = some o -> h1.get? b = some o)
  (hns : h1.Ns C fun _ => none) (hacc : h1.get? D = some o) (ho : ∀ v, o.data ≠ .cell v) :
  Inv (cxComp X own caps scope s H fp C) [(D, o)] (tau0 own.length caps σ) H { s with heap := h1, toks := tk } := by
 have sub : ∀ b ∈ frs X.stack, b < s.heap.objs.size := fun b hb => by
  rcases zR.mp (I.stkSub b hb) with e | hb
  ·rw [e]; exact I.lt
  ·by_cases q : b < s.heap.objs.size
   ·exact q
   ·exact absurd hb (I.nofs (Nat.le_of_not_lt q))
 refine ⟨⟨I.ok.mod, S.kind, I.ok.glob, I.ok.blt, hC, fun x y c h1 h2 => I.ok.inj x y c (xW h1) (xW h2), fun x hx => ?_, fun x c z _ => absurd (show false = true from z) zJ, I.ok.hd, I.ok.frames, .inl rfl,
   fun b hb => ⟨zV (zW (fl b hb) hC), fun x c e => (f b hb).2.2.2.2.1 x c (xW e)⟩, I.bs, ze I.ok.bsz I.sz, fun b ob e hb => ?_, fun b hb hs => ?_, I.stack, I.stkFree⟩,
  rfl, I.bare, Un.kept keep, ⟨_, hns, fun i x v e1 e2 e3 => ?_⟩, fun x c e => ?_, I.hok.fresh hC, fun x c e => I.freeC x c (xW e), fun p hp => ?_, I.hok.kept keep, ?_⟩
 ·have hm : (x, NameKind.free) ∈ scope.names := by
   rcases hx with hx | hx
   ·exact free_of_kind S.nocell (.inl rfl) hx
   ·exact free_of_kind S.nocell (.inr rfl) hx
  obtain ⟨c, hc⟩ := I.ok.has x (S.fr _ hm rfl)
  exact ⟨c, clOf_some hm hc⟩
 ·rcases (f b hb).2.2.2.1 with z | z
  ·exact I.ok.noex b ob e z
  ·exact absurd (zW (Heap.lt_size e) (ze I.ok.bsz z)) (zk _)
 ·rcases zR.mp (I.stkSub b hs) with e | e
  ·exact (f b hb).2.1 e
  ·exact (f b hb).2.2.1 e
 ·have e2' : (List.replicate own.length (none : Option V) ++ caps.map fun i => (σ[i]?).join)[i]? = some (some v) := e2
  have e1' : (own ++ caps.map (fun i => (X.N[i]?).getD Str.empty))[i]? = some x := e1
  have hi : own.length <= i := by
   by_cases q : i < own.length
   ·rw [yB (by simpa using q), List.getElem?_replicate, if_pos q] at e2'
    cases e2'
   ·exact Nat.le_of_not_lt q
  rw [zg (by simpa using hi), List.length_replicate, zC] at e2'
  rw [zg hi, zC] at e1'
  cases ek : caps[i - own.length]? with
  | none => rw [ek] at e1'; cases e1'
  | some k =>
   rw [ek] at e1' e2'
   have ex : (X.N[k]?).getD Str.empty = x := Option.some.inj e1'
   have ev : (σ[k]?).join = some v := Option.some.inj e2'
   have ev' : σ[k]? = some (some v) := by
    cases q : σ[k]? with
    | none => rw [q] at ev; cases ev
    | some y => rw [q] at ev; exact congrArg some ev
   obtain ⟨hl, hf⟩ := S.cap k (zD ek)
   have eN : X.N[k]? = some x := by
    rw [zE hl] at ex ⊢
    exact congrArg some ex
   rw [ex] at hf
   have hm := zu hf
   have hfr := S.fr _ hm rfl
   obtain ⟨m, _, hl'⟩ := I.loc
   obtain ⟨u, ru, lk⟩ := hl' k x v eN ev' (.inr hfr)
   refine ⟨u, ru, .inr ⟨lookup_relabel_free hf, ?_⟩⟩
   rcases lk with ⟨kl, _⟩ | ⟨_, c, hc, ob, hob, hd⟩
   ·have kl' : X.env.scope.names.lookup x = some .local := kl
    rcases hfr with z | z
    ·have z' : X.env.scope.names.lookup x = some .cell := z
     rw [z'] at kl'; cases kl'
    ·have z' : X.env.scope.names.lookup x = some .free := z
     rw [z'] at kl'; cases kl'
   ·exact ⟨c, clOf_some hm hc, ob, keep c ob hob, hd⟩
 ·obtain ⟨v, ob, hob, hd⟩ := I.cell x c (xW e)
  exact ⟨v, ob, keep c ob hob, hd⟩
 ·have e : p = (D, o) := by simpa using (show p ∈ [] ++ [(D, o)] from hp)
  subst e
  refine ⟨hacc, I.hok.fresh hD, hDC, fun z => ?_, ho⟩
  exact absurd (zW (sub D z) hD) (zk _)
 ·show (tau0 own.length caps σ).length = (own ++ caps.map (fun i => (X.N[i]?).getD Str.empty)).length
  simp [tau0]
def PTs (X : Cx) (ifs : List Expr) (t : TT) : Prop :=
 ∀ (pins : List (Addr × Obj)) (s : Shared) (σ : St) (H : Hp) (Q : Bool -> Hp -> Prop), Inv X pins σ H s -> t σ H Q ->
  wpAny (model X.prog X.w) X.A (forIn ifs true fun c r => if r = true then do let ok <- isTrue c X.env (eval c X.env); pure (ForInStep.yield ok) else pure (ForInStep.yield r)) (TP X pins σ Q) X.xe s
def tYes : TT := fun _ H Q => Q true H
theorem wC : PTs X [] tYes := fun _ s σ H Q I h => wpAny_tests_nil ⟨H, I, h⟩
theorem pts_one {c : Expr} {t : TT} (h : PT X c t) : PTs X [c] t := fun pins s σ H Q I q => wpAny_tests_one (h pins s σ H Q I q)
def tComp (n : Nat) (caps : List Nat) (wi : TI) (g : TG) (tc : TT) (te : TE) : TE := fun σ H Q => wi σ H fun J H1 => ∃ W : Nat -> Nat -> St -> List V -> Hp -> Prop, (∃ m, W 0 m (tau0 n caps σ) [] H1) /\ ∀ i m τ acc H, W i m τ acc H ->
 (J.stop i H /\ acc.length <= sizeLine /\ ∀ p, H p = none -> Q (.ref p) (upd H p (.lst acc))) \/
 (J.go i H /\ acc.length < sizeLine /\ ∀ x H', J.yld i H x H' -> g x τ H' fun τ2 H2 => tc τ2 H2 fun b H3 => if b = true then te τ2 H3 fun y H4 => ∃ m', m' < m /\ W (i + 1) m' τ2 (acc ++ [y]) H4 else ∃ m', m' < m /\ W (i + 1) m' τ2 acc H3)
theorem HOk.track {P : Program} {w : World} {H : Hp} {h : Heap} {a : Addr} {o : HO} (x : HOk P w H h) (hn : H a = none) (new : ObjOk P w (upd H a o) h a o) : HOk P w (upd H a o) h := fun b u e => by
 by_cases hb : b = a
 ·subst hb; rw [yn] at e; cases e; exact new
 ·rw [yy hb] at e
  exact (x b u e).stay (fun c v _ q => q) (fun c q => by rw [yy (yr q hn)]; exact q) fun c xs q => by rw [yy (yr q hn)]; exact q
theorem wD {own : List Str} {caps : List Nat} {elt tg iter : Expr} {ifs : List Expr} {scope : Scope} {pos : Pos} {wi : TI} {g : TG} {tc : TT} {te : TE} (hc : X.calm = true) (S : CompScope own caps X.N X.env.scope scope) (hi : PI X tg iter wi)
  (hg : ∀ s H fp C, PG (cxComp X own caps scope s H fp C) tg g) (ht : ∀ s H fp C, PTs (cxComp X own caps scope s H fp C) ifs tc) (he : ∀ s H fp C, PE (cxComp X own caps scope s H fp C) elt te)
  (hs : ∀ x, foldedSetIterable iter X.env x = pure x := by intro _; rfl) : PE X (.ListComp elt [⟨tg, iter, ifs, 0⟩] scope pos) (tComp own.length caps wi g tc te) := by
 intro pins s σ H Q I h
 rw [eval_ListComp]
 refine wpAny_comprehension_free (use := none) (cl := clOf scope.names X.env []) rfl hs (closureFor_eq fun y hy e => I.ok.has y.1 (S.fr y hy e)) S.kind S.loc
  (wpAny_mono (hi pins s σ H _ I h) (fun v s1 h1 => thn h1 fun itv s2 h2 => ?_) fun _ _ e => e)
 obtain ⟨it, fp, tn, J, H2, e, I2, T, st2, f2, W, ⟨m0, w0⟩, turn⟩ := h2
 subst e
 refine wpAny_newObj_type (wpAny_newFunctionEnv S.nocell (by intro y hy; simp at hy) (fun h₁ hns₁ hsb₁ => ?_) S.kind)
 dsimp only at hns₁ hsb₁ ⊢
 generalize hH2 : s2.heap.push { cls := .type "list", dict := none, data := .seq ([] : List Value).toArray } = G at hns₁ hsb₁ ⊢
 have hG : G.objs.size = s2.heap.objs.size + 1 := by rw [<- hH2, Heap.size_push]
 have hDC : s2.heap.objs.size ≠ G.objs.size := by rw [hG]; exact zV (yc _)
 have hCle : s2.heap.objs.size <= G.objs.size := by rw [hG]; exact yM _
 have below : ∀ b, b < s2.heap.objs.size -> b ≠ G.objs.size := fun b hb => by rw [hG]; exact zV (z6 hb)
 have old : ∀ b o, s2.heap.get? b = some o -> h₁.get? b = some o := fun b o e => hsb₁.extBut b o (below b (Heap.lt_size e)) (Heap.get?_push_of_some _ (hH2 ▸ Heap.get?_push_of_some _ e))
 have hacc : h₁.get? s2.heap.objs.size = some { cls := .type "list", dict := none, data := .seq ([] : List Value).toArray } := hsb₁.extBut _ _ hDC (Heap.get?_push_of_some _ (hH2 ▸ Heap.get?_push_size _ rfl))
 have fl : ∀ b ∈ fp, b < s2.heap.objs.size := fun b hb => let ⟨o, e, _⟩ := T.obj _ _ st2 b hb; Heap.lt_size e
 have hns₁' : h₁.Ns G.objs.size fun _ => none := hns₁
 have I4 := inv_comp (tk := s2.toks + ([] : List (Str × Value)).length) I2 S f2 fl (zG _) hCle hDC old hns₁' hacc (fun v z => nomatch z)
 have st4 : tn 0 h₁ := T.keep _ _ _ st2 fun b _ o e => old b o e
 generalize hs4 : ({ s2 with heap := h₁, toks := s2.toks + ([] : List (Str × Value)).length } : Shared) = s4 at I4 ⊢
 have e4 : s4.heap = h₁ := by rw [<- hs4]
 rw [<- e4] at st4
 -- the loop
 have loop : codeAny (model X.prog X.w) X.A (.compLoop (.ListComp elt [⟨tg, iter, ifs, 0⟩] scope pos) 0 (.ref it) (.ref s2.heap.objs.size) (compEnvC scope (clOf scope.names X.env []) G.objs.size X.env))
   (compPost (model X.prog X.w) X.A X.xe none (EP X pins σ Q) (.ref s2.heap.objs.size) G.objs.size) s4 := by
  let Y := cxComp X own caps scope s2 H2 fp G.objs.size
  have stat : ∀ {H' : Hp} {its : List Value} {n : Nat}, (∀ b ∈ fp, H' b = none) -> ∀ b ∈ fp, FpOk Y [(s2.heap.objs.size, ({ cls := .type "list", data := .seq its.toArray n } : Obj))] H' b := fun {H' its n} hn b hb => by
   refine ⟨hn b hb, below b (fl b hb), fun z => ?_, .inl hb, fun x c e => (f2 b hb).2.2.2.2.1 x c (xW e), fun p hp => ?_⟩
   ·rcases zR.mp (I2.stkSub b z) with e | e
    ·exact (f2 b hb).2.1 e
    ·exact (f2 b hb).2.2.1 e
   ·have e : p = (s2.heap.objs.size, ({ cls := .type "list", data := .seq its.toArray n } : Obj)) := by simpa using (show p ∈ [] ++ [_] from hp)
    subst e
    exact yi (fl b hb)
  refine loop_comp (fun n s' => ∃ i τ acc its k H', Inv Y [(s2.heap.objs.size, ({ cls := .type "list", data := .seq its.toArray k } : Obj))] τ H' s' /\ tn i s'.heap /\ (∀ b ∈ fp, H' b = none) /\ Vals acc its /\ W i n τ acc H') ?_ m0
   ⟨0, _, [], [], 0, H2, I4, st4, fun b hb => (f2 b hb).1, .nil, w0⟩
  rintro n s5 ⟨i, τ, acc, its, k, H5, I5, st5, fr5, rv5, w5⟩
  rcases turn i n τ acc H5 w5 with ⟨stop, hz, q⟩ | ⟨go, hz, step⟩
  ·refine thn (T.done Y rfl rfl rfl hc i _ s5 τ H5 (fun _ _ => False) I5 (stat fr5) st5 stop) fun r s6 ⟨hr, I6⟩ => ?_
   subst hr
   obtain ⟨eD, nD, _, _, _⟩ := I6.pin _ (zS _ (zM.mpr rfl))
   obtain ⟨m6, hm6, _⟩ := I6.loc
   refine ⟨m6, hm6, fun h' hsb => ?_⟩
   have hC6 : H5 G.objs.size = none := I6.free
   have eD' : h'.get? s2.heap.objs.size = some { cls := .type "list", data := .seq its.toArray k } := hsb.extBut _ _ hDC eD
   have hok6 : HOk X.prog X.w H5 h' := fun b u e => (I6.hok b u e).stay (fun c v hcv qv => hsb.extBut c v (by
     rcases hcv with z | z
     ·subst z; exact yr e hC6
     ·exact yr z hC6) qv) (fun _ q => q) fun _ _ q => q
   refine ⟨.ref s2.heap.objs.size, _, ?_, rfl, q _ nD⟩
   have ub := I6.base
   refine I2.call' (ch := fp) (s' := { s6 with heap := h' }) I6.os ⟨fun b o e n' hb hx => hsb.extBut b o (below b (Heap.lt_size e)) (ub.keep b o e n' hb hx), fun b o e n' hb hx => ?_, fun b o e n' hx => ?_, fun b o e hx => ?_, fun b xs e => ?_, fun b o u e => ?_, fun b ps e => ?_⟩
    (hok6.track nD ⟨hz, its, k, rv5, eD'⟩) I6.bare fun b hb => ⟨(f2 b hb).2.2.2.1, (f2 b hb).2.1, (f2 b hb).2.2.2.2.1, (f2 b hb).2.2.2.2.2⟩
   ·obtain ⟨sl, e'⟩ := ub.slot b o e n' hb hx
    exact ⟨sl, hsb.extBut b _ (below b (Heap.lt_size e)) e'⟩
   ·rw [yy (zV (Heap.lt_size e))]
    exact ub.free b o e n' hx
   ·obtain ⟨o', e'⟩ := ub.there b o e hx
    exact ⟨o', hsb.extBut b _ (below b (Heap.lt_size e)) e'⟩
   ·have z := ub.tups b xs e
    rw [yy (yr z nD)]; exact z
   ·have z := ub.frzs b o u e
    rw [yy (yr z nD)]; exact z
   ·obtain ⟨more, z⟩ := ub.tbls b ps e
    exact ⟨more, by rw [yy (yr z nD)]; exact z⟩
  ·refine thn (T.item Y rfl rfl rfl hc i _ s5 τ H5 (fun _ _ => False) I5 (stat fr5) st5 go) fun r s6 ⟨u, hr, h6⟩ => ?_
   subst hr
   refine thn h6 fun _ s7 ⟨x, H7, I7, r7, y7, st7, fr7⟩ => ?_
   have I7' := I7.pinned (stat fr7) (T.obj _ _ st7)
   refine thn (hg s2 H2 fp G.objs.size _ s7 τ H7 x u _ I7' r7 (step x H7 y7)) fun _ s8 ⟨τ8, H8, I8, q8⟩ => ?_
   refine thn (ht s2 H2 fp G.objs.size _ s8 τ8 H8 _ I8 q8) fun ok s9 ⟨H9, I9, q9⟩ => ?_
   -- the iterator's state behind the turn
   have back : ∀ {s' : Shared} {τ' : St} {H' : Hp}, Inv Y ([(s2.heap.objs.size, ({ cls := .type "list", data := .seq its.toArray k } : Obj))] ++ pinsAt fp s7.heap) τ' H' s' -> (tn (i + 1) s'.heap /\ ∀ b ∈ fp, H' b = none) := fun {s' τ' H'} Ib =>
    ⟨T.keep _ _ _ st7 fun b hb o e => (Ib.pin (b, o) (zS _ (zS _ (xz hb e)))).1, fun b hb => by
     obtain ⟨o, e, d⟩ := T.obj _ _ st7 b hb
     exact (Ib.pin (b, o) (zS _ (zS _ (xz hb e)))).2.1⟩
   cases ok with
   | false =>
    obtain ⟨m', hm', w'⟩ := q9
    obtain ⟨sb, fb⟩ := back I9
    exact ⟨m', hm', i + 1, τ8, acc, its, k, H9, I9.unpinned, sb, fb, rv5, w'⟩
   | true =>
    refine thn (he s2 H2 fp G.objs.size _ s9 τ8 H9 _ I9 q9) fun y s10 ⟨yv, H10, I10, r10, q10⟩ => ?_
    obtain ⟨m', hm', w'⟩ := q10
    obtain ⟨sb, fb⟩ := back I10
    obtain ⟨eD, nD, neD, nfD, _⟩ := I10.pin (s2.heap.objs.size, _) (zS _ (yL _ (zM.mpr rfl)))
    have hl : acc.length = its.length := rv5.length
    refine call_meets F.slot_list_append ⟨_, eD, rfl⟩ F.entry_list_append (F.args_list_append_2 _ _) (PySem.list_append s2.heap.objs.size its.toArray k y (by rw [zN]; omega)) ⟨eD, ?_⟩
    have q := PySem.IsL.update eD (fun a : Array Value => a.push y)
    have Iu : Inv Y [] τ8 H10 s10 := I10.pins_of fun p hp => nomatch hp
    have It := Iu.turned (t' := s10.toks) (it := s2.heap.objs.size) (h' := s10.heap.update s2.heap.objs.size (Obj.mapSeq (fun a : Array Value => a.push y))) (fun b o hb e => (Heap.get?_update_other s10.heap _ (Ne.symm hb)).trans e) nD neD (.inr (zG _))
     (fun x c e z => by
      obtain ⟨v, ob, hob, _⟩ := I2.cell x c (xW e)
      exact absurd (Heap.lt_size hob) (by rw [z]; exact zk _)) (fun p hp => nomatch hp)
    have It' := It.pins_of (pins' := [(s2.heap.objs.size, ({ cls := .type "list", data := .seq (its ++ [y]).toArray (k + 1) } : Obj))]) fun p hp => by
     have e : p = _ := zM.mp hp
     subst e
     exact ⟨by simpa using q, nD, neD, nfD, fun v z => nomatch z⟩
    refine ⟨m', hm', i + 1, τ8, acc ++ [yv], its ++ [y], _, H10, It', T.keep _ _ _ sb fun b hb o e => (Heap.get?_update_other s10.heap _ (yi (fl b hb))).trans e, fb, rv5.append (.cons r10 .nil), w'⟩
 exact codeAny_compStart_list loop (T.self _ 0 s4 _ _ st4 loop)
end
end L2
set_option Elab.async false
set_option linter.all false
set_option maxRecDepth 100000
set_option maxHeartbeats 4000000
namespace L2
open PySem PySem.Spec PyProof.Rows
open AutoSeq1 (wpAny_loadPart')
section
variable {prog : Program} {w : World} {A : Around} {E : Value -> Shared -> Prop} {s : Shared}
end
section
variable {prog : Program} {w : World} {A : Around} {E : Value -> Shared -> Prop} {s : Shared}
end
def IteL (K : PySem.W.Frag) (a : Addr) : It :=
 ⟨fun i H => ∃ xs x, SqL K H a xs /\ xs[i]? = some x, fun i H y H' => ∃ p x, H p = none /\ y = .ref p /\ H' = upd H p (.tup [.int i, x]) /\ ∀ xs, SqL K H a xs -> xs[i]? = some x, fun i H => ∃ xs, SqL K H a xs /\ xs.length <= i⟩
theorem turn_enumL {P : Program} {w : World} {K : PySem.W.Frag} {es : List Expr} {k : Nat} {pos : Pos} (a e it : Addr) (hne : e ≠ it) :
  Turn P w K (.Tuple es k pos) (IteL K a) [e, it] e (fun i h => (∃ old, IsEnum h e it i old) /\ h.IsListIter it a i) where
 mem := by simp
 obj := fun i h st b hb => by
  obtain ⟨⟨old, he⟩, o, hi, c, d⟩ := st
  rcases zR.mp hb with z | z
  ·subst z; exact ⟨_, he, fun v q => nomatch q⟩
  ·have z' : b = it := by simpa using z
   subst z'
   exact ⟨o, hi, fun v q => by rw [d] at q; cases q⟩
 keep := fun i h h' st q => by
  obtain ⟨⟨old, he⟩, o, hi, r⟩ := st
  exact ⟨⟨old, q e (by simp) _ he⟩, o, q it (by simp) o hi, r⟩
 item := by
  intro X hP hw hK hc i pins s σ H E I hf st hg
  subst hP hw hK
  obtain ⟨xs, x, hq, hx⟩ := hg
  obtain ⟨its, rv, p, hz⟩ := I.list hq
  obtain ⟨u, hu, ru⟩ := rv.get hx
  obtain ⟨⟨old, he⟩, hi⟩ := st
  obtain ⟨e0, e1, e2, e3, e4, e5⟩ := hf e (by simp)
  obtain ⟨f0, f1, f2, f3, f4, f5⟩ := hf it (by simp)
  have el : e < s.heap.objs.size := Heap.lt_size he
  have il : it < s.heap.objs.size := let ⟨_, z, _⟩ := hi; Heap.lt_size z
  refine wpAny_pyNext_enum_item he hi p.isList (x := u) (by simpa using hu) hne fun h1 ho hi1 hT hsz hk => ?_
  obtain ⟨tk, htk⟩ : ∃ tk, tk = s.toks := ⟨_, rfl⟩
  rw [<- htk] at hT ⊢
  refine ⟨_, rfl, ?_⟩
  refine wpAny_letOwnedTupleGo_enum ho fun h2 he2 hs2 => ?_
  have hs2' : Heap.SameBut e h1 h2 := hs2
  have old2 : ∀ b o, b ≠ e -> b ≠ it -> s.heap.get? b = some o -> h2.get? b = some o := fun b o hb hb' q => hs2'.extBut b o hb (hk b o hb hb' q)
  have hT2 : h2.get? s.heap.objs.size = some { cls := .type "tuple", data := .seq #[.int i tk, u] } := hs2'.extBut _ _ (yi el) hT
  have nT : H s.heap.objs.size = none := I.hok.fresh (zG _)
  refine ⟨.ref s.heap.objs.size, upd H s.heap.objs.size (.tup [.int i, x]), ?_, rfl, ⟨_, x, nT, rfl, rfl, fun ys hy => by rw [I.list_inj hy hq]; exact hx⟩, ⟨⟨u, by simpa using he2⟩, ?_⟩, fun b hb => ?_⟩
  ·have nch : ∀ b, b ∉ [e, it] -> b ≠ e /\ b ≠ it := fun b hb => ⟨fun z => hb (by simp [z]), fun z => hb (by simp [z])⟩
   refine Inv.step (s := s) (h' := h2) (g' := s.gens) (d' := s.drawn) (t' := tk + 1) (ch := [e, it]) I (fun b hb => ?_) (fun b o _ _ hb q _ => old2 b o (nch b hb).1 (nch b hb).2 q) (fun b o _ _ hb q _ => ⟨o.slots, old2 b o (nch b hb).1 (nch b hb).2 q⟩)
    (fun b o _ q n => by rw [yy (zV (Heap.lt_size q))]; exact n) (fun b o hb q => ⟨o, old2 b o (nch b hb).1 (nch b hb).2 q⟩)
    (fun b ys q => by rw [yy (yr q nT)]; exact q) (fun b o v q => by rw [yy (yr q nT)]; exact q) (fun b ps q => ⟨#[], by rw [yy (yr q nT), q]; simp⟩)
    (fun m hm => by
     obtain ⟨o, es', ep, q, r⟩ := hm
     exact ⟨o, es', ep, old2 _ o (Ne.symm e1) (Ne.symm f1) q, r⟩) (fun b v q => ?_) I.bare
   ·rcases zR.mp hb with z | z
    ·subst z; exact ⟨e3, e1, e4, e5⟩
    ·have z' : b = it := by simpa using z
     subst z'; exact ⟨f3, f1, f4, f5⟩
   ·by_cases hb : b = s.heap.objs.size
    ·subst hb
     rw [yn] at q
     cases q
     exact ⟨by show 2 <= sizeLine; rw [sizeLine_eq]; decide, [.int i tk, u], .cons ⟨_, rfl⟩ (.cons ru .nil), ⟨_, hT2, rfl, _, rfl⟩⟩
    ·rw [yy hb] at q
     refine (I.hok b v q).stay (fun c ob hc qc => old2 c ob ?_ ?_ qc) (fun c qc => by rw [yy (yr qc nT)]; exact qc) fun c ys qc => by rw [yy (yr qc nT)]; exact qc
     ·rcases hc with z | z
      ·subst z; exact yr q e0
      ·exact yr z e0
     ·rcases hc with z | z
      ·subst z; exact yr q f0
      ·exact yr z f0
  ·obtain ⟨o, q, r⟩ := hi1
   exact ⟨o, hs2'.extBut it o (Ne.symm hne) q, r⟩
  ·rcases zR.mp hb with z | z
   ·subst z; rw [yy (zV el)]; exact e0
   ·have z' : b = it := by simpa using z
    subst z'; rw [yy (zV il)]; exact f0
 done := by
  intro X hP hw hK hc i pins s σ H E I hf st hg
  subst hP hw hK
  obtain ⟨xs, hq, hx⟩ := hg
  obtain ⟨its, rv, p, hz⟩ := I.list hq
  obtain ⟨⟨old, he⟩, hi⟩ := st
  obtain ⟨f0, f1, f2, f3, f4, f5⟩ := hf it (by simp)
  have hl := rv.length
  exact wpAny_pyNext_enum_end (I.ok.hd hc) he hi p.isList (by simp; omega) fun h' eb => ⟨rfl, I.turned (t' := s.toks) (fun b o hb e => eb b o hb e) f0 f1 f3 f4 f5⟩
 self := fun _ _ _ _ _ st h => let ⟨⟨_, he⟩, _⟩ := st; wpAny_pyIter_enum he h
def iEnumL (K : PySem.W.Frag) (ta : TA) : TI := fun σ H R => ta σ H fun vs H1 => ∃ a, vs = [.ref a] /\ (∃ xs, SqL K H1 a xs) /\ R (IteL K a) H1
theorem pi_enumL {X : Cx} {a : Expr} {ta : TA} {p pos pos2 : Pos} {es : List Expr} {k : Nat} {K : PySem.W.Frag} (hK : X.K = K) (hg : Gl X "enumerate") (hm : X.mg "enumerate" = none) (ha : PA X [a] ta) (hs : starEach [a] X.env = [(false, eval a X.env)] := by rfl) :
  PI X (.Tuple es k pos2) (.Call (.Name "enumerate" p) [a] [] pos) (iEnumL K ta) := by
 subst hK
 intro pins s σ H R I h
 refine Call_ (ld_blt I hg hm boot_enumerate (PyProof.Rows.callWith_type1 (thn (ha pos pins s σ H _ I h) fun us s1 ⟨vs, H1, I1, r1, q1⟩ => ?_) hs rfl))
 obtain ⟨l, e, ⟨xs, hq⟩, q⟩ := q1
 subst e
 cases r1 with
 | cons r rr =>
  cases rr
  cases r
  obtain ⟨its, rv, p, hz⟩ := I1.list hq
  refine call_enumerate_list p.isList fun h' he hi hsz hk => ?_
  refine wpAny_pyIter_enum he ?_
  have I2 : Inv X pins σ H1 { s1 with heap := h' } := I1.kept (t' := s1.toks) hk
  refine ⟨s1.heap.objs.size + 1, [s1.heap.objs.size + 1, s1.heap.objs.size], _, _, H1, rfl, I2, turn_enumL l _ _ (Nat.succ_ne_self _), ⟨⟨_, he⟩, hi⟩, fun b hb => ?_, q⟩
  have hb' : s1.heap.objs.size <= b := by
   rcases zR.mp hb with z | z
   ·subst z; exact yM _
   ·have z' : b = s1.heap.objs.size := by simpa using z
    subst z'; exact zG _
  exact I1.fpOk hb' (I1.hok.fresh hb')
end L2
set_option Elab.async false
set_option linter.all false
set_option maxRecDepth 100000
set_option maxHeartbeats 4000000
namespace L2
open PySem PySem.Spec PyProof.Rows
def tyS (H : Hp) : V -> Option String
 | .non => some "NoneType"
 | .bl _ => some "bool"
 | .int _ => some "int"
 | .str _ => some "str"
 | .ref a => match H a with
  | some (.lst _) => some "list"
  | some (.frz _ (.lst _)) => some "list"
  | some (.tup _) => some "tuple"
  | some (.dK _) => some "dict"
  | _ => none
 | _ => none
theorem tyS_of {K : PySem.W.Frag} {H : Hp} {x : V} {t : String} (h : tyS H x = some t) : TyOf K H x (.type t) := by
 cases x with
 | non => cases h; exact .non
 | bl b => cases h; exact .bl b
 | int i => cases h; exact .int i
 | str x => cases h; exact .str x
 | ref a =>
  unfold tyS at h
  dsimp only at h
  split at h
  ·rename_i e; cases h; exact .lst e
  ·rename_i e; cases h; exact .frz e
  ·rename_i e; cases h; exact .tup e
  ·rename_i e; cases h; exact .dK e
  ·cases h
 | _ => cases h
theorem tyS_six {H : Hp} {x : V} {t : String} (h : tyS H x = some t) : t = "NoneType" \/ t = "bool" \/ t = "int" \/ t = "str" \/ t = "list" \/ t = "tuple" \/ t = "dict" := by
 cases x with
 | ref a =>
  unfold tyS at h
  dsimp only at h
  split at h <;> cases h <;> simp
 | _ => cases h <;> simp
def isSub (t T : String) : Bool := t == T || (t == "bool" && T == "int")
theorem kit_of {K : PySem.W.Frag} {t T : String} (h : t = "NoneType" \/ t = "bool" \/ t = "int" \/ t = "str" \/ t = "list" \/ t = "tuple" \/ t = "dict") (hT : T = "int" \/ T = "bool" \/ T = "list" \/ T = "tuple") : yQ K (.type t) (.type T) = some (isSub t T) := by
 rcases h with rfl | rfl | rfl | rfl | rfl | rfl | rfl <;> rcases hT with rfl | rfl | rfl | rfl <;> first | rfl | decide +kernel
section
variable {X : Cx}
theorem call_isinst : CallR X (.builtin "isinstance") (fun xs H Q => ∃ x t T, xs = [x, .ty T] /\ tyS H x = some t /\ (T = "int" \/ T = "bool" \/ T = "list" \/ T = "tuple") /\ Q (.bl (isSub t T)) H) := by
 intro pins s σ H xs us Q I r h
 obtain ⟨x, t, T, rfl, ht, hT, q⟩ := h
 obtain ⟨u, w', rfl, r1, r2⟩ := vals2 r
 cases r2
 exact isinst_ok I r1 (tyS_of ht) (kit_of (tyS_six ht) hT) fun tk => ⟨.bl _, H, I.tok tk, rfl, q⟩
theorem op_fdivB : OpR X (binaryOp .FloorDiv) (rI (fun _ j => 0 < j /\ j < 2 ^ 200) fun i j => .int (i / j)) := opI fun i j _ _ _ _ _ hc q => by
 have e : i.fdiv j = i / j := Int.fdiv_eq_ediv_of_nonneg _ (by omega)
 rw [<- e] at q
 refine floordiv_int (by omega) q (.inl (PyProof.noPylong_of_log2 ?_))
 have h0 : j.natAbs ≠ 0 := by omega
 have h1 : j.natAbs < 2 ^ 200 := by omega
 have := (Nat.log2_lt h0).mpr h1
 omega
theorem op_neNil (hu : X.A.units + 64 < cLine) : OpR X (compareOp .NotEq) (fun x y H Q => ∃ a b xs, x = .ref a /\ y = .ref b /\ SqL X.K H a xs /\ SqL X.K H b [] /\ Q (.bl (!xs.isEmpty)) H) := by
 intro pins s σ H x y v u Q I rx ry h
 obtain ⟨a, b, xs, rfl, rfl, ha, hb, q⟩ := h
 cases rx; cases ry
 obtain ⟨its, r, p, _⟩ := I.list ha
 obtain ⟨its2, r2, p2, _⟩ := I.list hb
 cases r2
 cases r with
 | nil => exact SeqAt.RcNeAt.lists (e := fun _ => true) p.isList p2.isList rfl (by omega) (fun j h1 => absurd h1 (Nat.not_lt_zero _)) _ _ _ _ ⟨.bl _, H, I, rfl, q⟩
 | cons r1 rr => exact SeqAt.RcNeAt.lists_lengths p.isList p2.isList (by simp) (by omega) _ _ _ _ ⟨.bl _, H, I, rfl, q⟩
theorem op_eqUnit (hu : X.A.units + 64 < cLine) : OpR X (compareOp .Eq) (fun x y H Q => ∃ a b xs, x = .ref a /\ y = .ref b /\ SqT X.K H a xs /\ SqT X.K H b [] /\ Q (.bl xs.isEmpty) H) := by
 intro pins s σ H x y v u Q I rx ry h
 obtain ⟨a, b, xs, rfl, rfl, ha, hb, q⟩ := h
 cases rx; cases ry
 obtain ⟨its, r, p, _⟩ := I.tuple ha
 obtain ⟨its2, r2, p2, _⟩ := I.tuple hb
 cases r2
 have q' : Q (.bl ((List.range (min its.toArray.size ([] : List Value).toArray.size)).all (fun _ => true) && its.toArray.size == ([] : List Value).toArray.size)) H := by
  cases r with
  | nil => simpa using q
  | cons r1 rr => simpa using q
 exact SeqAt.RcAt.tuples (e := fun _ => true) p p2 (by omega) (fun j h1 h2 => absurd h2 (Nat.not_lt_zero _)) _ _ _ _ ⟨.bl _, H, I, rfl, q'⟩
variable {K : PySem.W.Frag}
theorem xw {es : List Expr} {k : Nat} {t : TGs} {n : Nat} {pos : Pos} (hK : X.K = K) (hc : X.calm = true) (h : PGs X es t)
  (hn : (assignEach es X.env).length = n := by rfl) (hst : (assignEach es X.env).findIdx? (·.1) = none := by rfl) : PG X (.Tuple es k pos) (gTup K n t) := by subst hK; exact pg_tup hc h hn hst
theorem pi_list' {tg l : Expr} {tl : TE} (hK : X.K = K) (hl : PE X l tl) : PI X tg l (iList K tl) := by subst hK; exact pi_list hl
theorem pi_tup'' {tg l : Expr} {tl : TE} (hK : X.K = K) (hl : PE X l tl) : PI X tg l (iTup K tl) := by subst hK; exact pi_tup hl
theorem xG (hK : X.K = K) : IxR X (rIxL K) := by subst hK; exact ix_list
theorem xH (hK : X.K = K) : IxR X (rIxT K) := by subst hK; exact ix_tup
theorem sl_list' (hK : X.K = K) : SlR X (rSlL K) := by subst hK; exact sl_list
theorem sl_tup' (hK : X.K = K) : SlR X (rSlT K) := by subst hK; exact sl_tup
theorem op_in_seq' (hK : X.K = K) : OpR X (compareOp .In) (rIn K false) := by subst hK; exact op_in_seq
theorem y6 (hK : X.K = K) : CallR X (.builtin "len") (fun xs H Q => ∃ p ys, xs = [.ref p] /\ (SqL K H p ys \/ SqT K H p ys) /\ Q (.int ys.length) H) := by subst hK; exact call_len_seq
theorem call_list_of' (hK : X.K = K) : CallR X (.type "list") (fun xs H Q => ∃ p ys, xs = [.ref p] /\ (SqL K H p ys \/ SqT K H p ys) /\ ∀ l, H l = none -> Q (.ref l) (upd H l (.lst ys))) := by subst hK; exact call_list_of
end
end L2
namespace L2
open PySem PySem.Spec PyProof.Rows
theorem get_list {X : Cx} {K : PySem.W.Frag} (hK : X.K = K) : PGet X (fun o i H Q => ∃ p xs v, ∃ k : Nat, o = .ref p /\ i = .int k /\ SqL K H p xs /\ xs[k]? = some v /\ Q v H) := by
 subst hK
 intro pins s σ H o i ov iv Q I ro ri h
 obtain ⟨p, xs, v, k, rfl, rfl, hq, hv, q⟩ := h
 cases ro
 obtain ⟨t, rfl⟩ := ri
 obtain ⟨its, r, pl, hz⟩ := I.list hq
 obtain ⟨w, ew, rw'⟩ := r.get hv
 have hk : k < xs.length := (zB.mp hv).1
 have hn := line63
 exact wpAny_getItem_list pl.isList (by omega) (by omega) (by simpa using ew) ⟨v, H, I, rw', q⟩
end L2
set_option Elab.async false
set_option linter.all false
set_option maxRecDepth 100000
set_option maxHeartbeats 4000000
namespace SmSort
open PySem PySem.W PyProof.Rows
def KOK {α : Type} (n : Nat) (c : Nat -> Nat -> Bool) : KasT α -> (α -> Prop) -> Prop
 | .ret a, P => P a
 | .ask i j k, P => i < n /\ j < n /\ KOK n c (k (c i j)) P
theorem KOK.bind {α β : Type} {n : Nat} {c : Nat -> Nat -> Bool} {f : α -> KasT β} {P : β -> Prop} : ∀ (t : KasT α), KOK n c t (fun a => KOK n c (f a) P) -> KOK n c (t.bind f) P
 | .ret a, h => h
 | .ask i j k, h => ⟨h.1, h.2.1, KOK.bind (k (c i j)) h.2.2⟩
theorem KOK.mono {α : Type} {n : Nat} {c : Nat -> Nat -> Bool} {P P' : α -> Prop} (hp : ∀ a, P a -> P' a) : ∀ (t : KasT α), KOK n c t P -> KOK n c t P'
 | .ret a, h => hp a h
 | .ask i j k, h => ⟨h.1, h.2.1, KOK.mono hp (k (c i j)) h.2.2⟩
theorem KOK.wp {α : Type} {n : Nat} {c : Nat -> Nat -> Bool} {P : α -> Prop} {Q : α -> Shared -> Prop} {cmp : Nat -> Nat -> (Bool -> Shared -> Prop) -> Shared -> Prop} {s : Shared}
  (hc : ∀ i j C, i < n -> j < n -> C (c i j) s -> cmp i j C s) (hq : ∀ a, P a -> Q a s) : ∀ (t : KasT α), KOK n c t P -> t.kasWp cmp Q s
 | .ret a, h => hq a h
 | .ask i j k, h => hc i j _ h.1 h.2.1 (KOK.wp hc hq (k (c i j)) h.2.2)
section
variable {n : Nat} {f : Nat -> Int}
def at' (p : Array Nat) (i : Nat) : Nat := (p[i]?).getD 0
theorem xf (p : Array Nat) (i : Nat) : p.getD i 0 = at' p i := by unfold at'; simp
def g (f : Nat -> Int) (p : Array Nat) (i : Nat) : Int := f (at' p i)
def Pm (n : Nat) (p : Array Nat) : Prop := p.Perm (List.toArray (List.range n))
theorem Pm.size {p : Array Nat} (h : Pm n p) : p.size = n := by rw [Array.Perm.size_eq h]; simp
theorem Pm.lt {p : Array Nat} (h : Pm n p) {i : Nat} (hi : i < n) : at' p i < n := by
 have hs := h.size
 have e : at' p i = p[i]'(by omega) := by unfold at'; simp [hs, hi]
 have hm : p[i]'(by omega) ∈ p := Array.getElem_mem _
 have hm' := (Array.Perm.mem_iff h).mp hm
 rw [e]
 simpa using hm'
theorem Pm.rev {p : Array Nat} (h : Pm n p) (i j : Nat) : Pm n (kas_rev p i j) := (mirror_perm p i j _).trans h
theorem Pm.bub {p : Array Nat} (h : Pm n p) (k d : Nat) : Pm n (bubble p k d) := (bubble_perm p k d).trans h
theorem g_rev {p : Array Nat} {i j : Nat} (hj : j <= p.size) (k : Nat) : g f (kas_rev p i j) k = if i <= k /\ k < j then g f p (i + j - 1 - k) else g f p k := by
 unfold g at' kas_rev
 rw [getElem?_mirror_all hj k]
 split <;> rfl
theorem g_bub {p : Array Nat} {src d : Nat} (hs : src < p.size) (hd : d <= src) (k : Nat) : g f (bubble p src d) k = if k = src - d then g f p src else if src - d < k /\ k <= src then g f p (k - 1) else g f p k := by
 unfold g at'
 rw [getElem?_bubble hs d hd k]
 split
 ·rfl
 ·split <;> rfl
def Up (f : Nat -> Int) (p : Array Nat) (k : Nat) : Prop := ∀ i j, i <= j -> j < k -> g f p i <= g f p j
def Dn (f : Nat -> Int) (p : Array Nat) (k : Nat) : Prop := ∀ i j, i <= j -> j < k -> g f p j <= g f p i
def cf (f : Nat -> Int) (i j : Nat) : Bool := decide (f i < f j)
theorem asc_ok {p : Array Nat} (hp : Pm n p) : ∀ (q m : Nat), 1 <= m -> m + q <= n -> Up f p m -> KOK n (cf f) (kas_asc p q m) (fun m' => m <= m' /\ m' <= m + q /\ Up f p m' /\ (m' < m + q -> g f p m' < g f p (m' - 1)))
 | 0, m, _, _, hu => ⟨zG _, zG _, hu, fun h => absurd h (zk _)⟩
 | q + 1, m, h1, h2, hu => by
  unfold kas_asc
  refine ⟨by rw [xf]; exact hp.lt (by omega), by rw [xf]; exact hp.lt (by omega), ?_⟩
  rw [xf, xf]
  by_cases hc : g f p m < g f p (m - 1)
  ·have e : cf f (at' p m) (at' p (m - 1)) = true := decide_eq_true hc
   rw [e]; dsimp only; rw [if_pos rfl]
   exact ⟨zG _, by omega, hu, fun _ => hc⟩
  ·have e : cf f (at' p m) (at' p (m - 1)) = false := decide_eq_false hc
   rw [e]; dsimp only; rw [if_neg zJ]
   refine KOK.mono (fun m' h => ⟨by omega, by omega, h.2.2.1, fun z => h.2.2.2 (by omega)⟩) _ (asc_ok hp q (m + 1) (by omega) (by omega) fun i j hij hj => ?_)
   by_cases hjm : j < m
   ·exact hu i j hij hjm
   ·have ej : j = m := by omega
    subst ej
    by_cases hi : i = j
    ·subst hi; omega
    ·have := hu i (j - 1) (by omega) (by omega)
     omega
def Blk (f : Nat -> Int) (p : Array Nat) (m q : Nat) : Prop := ∀ i, m <= i + (q + 1) -> i < m -> g f p i = g f p (m - 1)
theorem rev_same {p : Array Nat} (hp : Pm n p) {m q : Nat} (hm : m <= n) (hq : q + 1 <= m) (hb : Blk f p m q) (k : Nat) : g f (kas_rev p (m - (q + 1)) m) k = g f p k := by
 rw [g_rev (by rw [hp.size]; exact hm)]
 split
 ·rename_i h
  rw [hb _ (by omega) (by omega), hb k (by omega) (by omega)]
 ·rfl
theorem desc_ok : ∀ (t : Nat) (p : Array Nat) (m q : Nat), Pm n p -> 1 <= m -> m + t <= n -> q + 1 <= m -> Dn f p m -> Blk f p m q ->
  KOK n (cf f) (kas_desc t p m q) (fun r => Pm n r.1 /\ m <= r.2.1 /\ r.2.1 <= n /\ r.2.2 + 1 <= r.2.1 /\ Dn f r.1 r.2.1 /\ Blk f r.1 r.2.1 r.2.2)
 | 0, p, m, q, hp, h1, h2, h3, hd, hb => ⟨hp, zG _, by simpa using h2, h3, hd, hb⟩
 | t + 1, p, m, q, hp, h1, h2, h3, hd, hb => by
  unfold kas_desc
  refine ⟨by rw [xf]; exact hp.lt (by omega), by rw [xf]; exact hp.lt (by omega), ?_⟩
  rw [xf, xf]
  by_cases hc : g f p m < g f p (m - 1)
  ·have e : cf f (at' p m) (at' p (m - 1)) = true := decide_eq_true hc
   rw [e]; dsimp only; rw [if_pos rfl]
   have step : ∀ p' : Array Nat, Pm n p' -> (∀ k, g f p' k = g f p k) -> KOK n (cf f) (kas_desc t p' (m + 1) 0) (fun r => Pm n r.1 /\ m <= r.2.1 /\ r.2.1 <= n /\ r.2.2 + 1 <= r.2.1 /\ Dn f r.1 r.2.1 /\ Blk f r.1 r.2.1 r.2.2) := fun p' hp' hg => by
    refine KOK.mono (fun r h => ⟨h.1, by omega, h.2.2⟩) _ (desc_ok t p' (m + 1) 0 hp' (by omega) (by omega) (by omega) (fun i j hij hj => ?_) fun i hi hi' => ?_)
    ·rw [hg, hg]
     by_cases hjm : j < m
     ·exact hd i j hij hjm
     ·have ej : j = m := by omega
      subst ej
      by_cases hi : i = j
      ·subst hi; omega
      ·have := hd i (j - 1) (by omega) (by omega)
       omega
    ·have : i = m + 1 - 1 := by omega
     rw [this]
   split
   ·exact step _ (hp.rev _ _) (rev_same hp (by omega) h3 hb)
   ·exact step _ hp fun _ => rfl
  ·have e : cf f (at' p m) (at' p (m - 1)) = false := decide_eq_false hc
   rw [e]; dsimp only; rw [if_neg zJ]
   refine ⟨hp.lt (by omega), hp.lt (by omega), ?_⟩
   by_cases hc2 : g f p (m - 1) < g f p m
   ·have e2 : cf f (at' p (m - 1)) (at' p m) = true := decide_eq_true hc2
    rw [e2]; dsimp only; rw [if_pos rfl]
    exact ⟨hp, zG _, by show m <= n; omega, h3, hd, hb⟩
   ·have e2 : cf f (at' p (m - 1)) (at' p m) = false := decide_eq_false hc2
    rw [e2]; dsimp only; rw [if_neg zJ]
    have eq : g f p m = g f p (m - 1) := by omega
    refine KOK.mono (fun r h => ⟨h.1, by omega, h.2.2⟩) _ (desc_ok t p (m + 1) (q + 1) hp (by omega) (by omega) (by omega) (fun i j hij hj => ?_) fun i hi hi' => ?_)
    ·by_cases hjm : j < m
     ·exact hd i j hij hjm
     ·have ej : j = m := by omega
      subst ej
      by_cases hi : i = j
      ·subst hi; omega
      ·have := hd i (j - 1) (by omega) (by omega)
       omega
    ·rw [show m + 1 - 1 = m from rfl]
     by_cases hi2 : i = m
     ·rw [hi2]
     ·rw [hb i (by omega) (by omega), eq]
theorem tail3_ok {p : Array Nat} {m : Nat} (hp : Pm n p) (h1 : 1 <= m) (hm : m <= n) (hd : Dn f p m) : KOK n (cf f) (kas_tail3 m n p) (fun r => Pm n r.2 /\ r.1 <= n /\ 1 <= r.1 /\ Up f r.2 r.1) := by
 unfold kas_tail3
 have hp' := hp.rev 0 m
 refine KOK.bind _ (KOK.mono (fun m' h => ⟨hp', by omega, by omega, h.2.2.1⟩) _ (asc_ok hp' (n - m) m h1 (by omega) fun i j hij hj => ?_))
 rw [g_rev (by rw [hp.size]; exact hm), g_rev (by rw [hp.size]; exact hm), if_pos ⟨by omega, by omega⟩, if_pos ⟨by omega, by omega⟩]
 exact hd _ _ (by omega) (by omega)
theorem descPart_ok {p : Array Nat} {m : Nat} (hp : Pm n p) (h1 : 1 <= m) (hm : m < n) (hd : Dn f p (m + 1)) : KOK n (cf f) (kas_descPart m n p) (fun r => Pm n r.2 /\ r.1 <= n /\ 1 <= r.1 /\ Up f r.2 r.1) := by
 unfold kas_descPart
 refine KOK.bind _ (KOK.mono (fun r h => ?_) _ (desc_ok (n - (m + 1)) p (m + 1) 0 hp (by omega) (by omega) (by omega) hd fun i hi hi' => by rw [show i = m + 1 - 1 by omega]))
 obtain ⟨a1, a2, a3, a4, a5, a6⟩ := h
 split
 ·exact tail3_ok (a1.rev _ _) (by omega) a3 fun i j hij hj => by
   rw [rev_same a1 a3 a4 a6, rev_same a1 a3 a4 a6]
   exact a5 i j hij hj
 ·exact tail3_ok a1 (by omega) a3 a5
theorem count_ok {p : Array Nat} (hn : 1 <= n) (hp : Pm n p) : KOK n (cf f) (kas_count n p) (fun r => Pm n r.2 /\ r.1 <= n /\ 1 <= r.1 /\ Up f r.2 r.1) := by
 unfold kas_count
 refine KOK.bind _ (KOK.mono (fun m h => ?_) _ (asc_ok hp (n - 1) 1 (zG _) (by omega) fun i j hij hj => by rw [show i = j by omega]; omega))
 obtain ⟨a1, a2, a3, a4⟩ := h
 split
 ·exact ⟨hp, by omega, a1, a3⟩
 ·rename_i hne
  have hlt : m < n := by
   have : ¬ m = n := by simpa using hne
   omega
  have a4' := a4 (by omega)
  split
  ·rename_i hm1
   refine ⟨by rw [xf]; exact hp.lt (by omega), by rw [xf]; exact hp.lt (by omega), ?_⟩
   rw [xf, xf]
   by_cases hc : g f p 0 < g f p (m - 1)
   ·have e : cf f (at' p 0) (at' p (m - 1)) = true := decide_eq_true hc
    rw [e]; dsimp only; rw [if_pos rfl]
    exact ⟨hp, by omega, a1, a3⟩
   ·have e : cf f (at' p 0) (at' p (m - 1)) = false := decide_eq_false hc
    rw [e]; dsimp only; rw [if_neg zJ]
    have all : ∀ k, k < m -> g f p k = g f p 0 := fun k hk => by
     have := a3 0 k (by omega) hk
     have := a3 k (m - 1) (by omega) (by omega)
     omega
    have gr : ∀ k, g f (kas_rev p 0 m) k = g f p k := fun k => by
     rw [g_rev (by rw [hp.size]; omega)]
     split
     ·rw [all _ (by omega), all k (by omega)]
     ·rfl
    refine descPart_ok (hp.rev _ _) a1 hlt fun i j hij hj => ?_
    rw [gr, gr]
    by_cases hjm : j < m
    ·rw [all i (by omega), all j hjm]; omega
    ·have ej : j = m := by omega
     subst ej
     by_cases hi : i = j
     ·subst hi; omega
     ·have := all i (by omega)
      have := all (j - 1) (by omega)
      omega
  ·refine descPart_ok hp a1 hlt fun i j hij hj => ?_
   have em : m = 1 := by omega
   subst em
   by_cases hi : i = j
   ·subst hi; omega
   ·have e1 : i = 0 := by omega
    have e2 : j = 1 := by omega
    subst e1 e2
    have : g f p 1 < g f p 0 := a4'
    omega
theorem place_ok {p : Array Nat} {k : Nat} (hp : Pm n p) (hk : k < n) (hu : Up f p k) : ∀ (t l r : Nat), l <= r -> r <= k -> r <= l + t -> (∀ i, i < l -> g f p i <= g f p k) -> (∀ i, r <= i -> i < k -> g f p k < g f p i) ->
  KOK n (cf f) (kas_place p k t l r) (fun l' => l' <= k /\ (∀ i, i < l' -> g f p i <= g f p k) /\ ∀ i, l' <= i -> i < k -> g f p k < g f p i)
 | 0, l, r, h1, h2, h3, ha, hb => ⟨by omega, ha, fun i hi hi' => hb i (by omega) hi'⟩
 | t + 1, l, r, h1, h2, h3, ha, hb => by
  unfold kas_place
  split
  ·exact ⟨by omega, ha, fun i hi hi' => hb i (by omega) hi'⟩
  ·rename_i hlr
   refine ⟨by rw [xf]; exact hp.lt hk, by rw [xf]; exact hp.lt (by omega), ?_⟩
   rw [xf, xf]
   by_cases hc : g f p k < g f p ((l + r) / 2)
   ·have e : cf f (at' p k) (at' p ((l + r) / 2)) = true := decide_eq_true hc
    rw [e]; dsimp only; rw [if_pos rfl]
    refine place_ok hp hk hu t l ((l + r) / 2) (by omega) (by omega) (by omega) ha fun i hi hi' => ?_
    have := hu ((l + r) / 2) i (by omega) hi'
    omega
   ·have e : cf f (at' p k) (at' p ((l + r) / 2)) = false := decide_eq_false hc
    rw [e]; dsimp only; rw [if_neg zJ]
    refine place_ok hp hk hu t ((l + r) / 2 + 1) r (by omega) (by omega) (by omega) (fun i hi => ?_) hb
    have := hu i ((l + r) / 2) (by omega) (by omega)
    omega
theorem bin_ok : ∀ (t : Nat) (p : Array Nat) (k : Nat), Pm n p -> k + t = n -> Up f p k -> KOK n (cf f) (kas_bin t p k) (fun p' => Pm n p' /\ Up f p' n)
 | 0, p, k, hp, hk, hu => ⟨hp, by rw [<- hk]; exact hu⟩
 | t + 1, p, k, hp, hk, hu => by
  unfold kas_bin
  refine KOK.bind _ (KOK.mono (fun l h => ?_) _ (place_ok hp (by omega) hu k 0 k (by omega) (by omega) (by omega) (fun i hi => absurd hi (Nat.not_lt_zero _)) fun i hi hi' => absurd hi' (by omega)))
  obtain ⟨a1, a2, a3⟩ := h
  refine bin_ok t _ (k + 1) (hp.bub _ _) (by omega) fun i j hij hj => ?_
  have hs : k < p.size := by rw [hp.size]; omega
  rw [g_bub hs (by omega), g_bub hs (by omega)]
  have el : k - (k - l) = l := by omega
  rw [el]
  by_cases hil : i = l
  ·rw [if_pos hil]
   by_cases hjl : j = l
   ·rw [if_pos hjl]; omega
   ·rw [if_neg hjl, if_pos ⟨by omega, by omega⟩]
    have := a3 (j - 1) (by omega) (by omega)
    omega
  ·rw [if_neg hil]
   by_cases hi2 : l < i /\ i <= k
   ·rw [if_pos hi2]
    rw [if_neg (by omega), if_pos ⟨by omega, by omega⟩]
    exact hu _ _ (by omega) (by omega)
   ·rw [if_neg hi2]
    have hi3 : i < l := by omega
    by_cases hjl : j = l
    ·rw [if_pos hjl]; exact a2 i hi3
    ·rw [if_neg hjl]
     by_cases hj2 : l < j /\ j <= k
     ·rw [if_pos hj2]; exact hu _ _ (by omega) (by omega)
     ·rw [if_neg hj2]; exact hu _ _ hij (by omega)
theorem sort_ok (hn : 1 <= n) : KOK n (cf f) (kas_sort n) (fun p => Pm n p /\ Up f p n) := by
 unfold kas_sort
 refine KOK.bind _ (KOK.mono (fun r h => ?_) _ (count_ok hn (show Pm n (List.toArray (List.range n)) from Array.Perm.refl _)))
 obtain ⟨a1, a2, a3, a4⟩ := h
 split
 ·have e : max r.1 1 = r.1 := by omega
  rw [e]
  exact bin_ok _ _ _ a1 (by omega) a4
 ·have e : r.1 = n := by omega
  exact ⟨a1, by rw [<- e]; exact a4⟩
end
end SmSort
set_option Elab.async false
set_option linter.all false
set_option maxRecDepth 100000
set_option maxHeartbeats 4000000
namespace SmSort
def lx : List Int -> List Int -> Bool
 | [], [] => false
 | [], _ :: _ => true
 | _ :: _, [] => false
 | x :: xs, y :: ys => if x = y then lx xs ys else decide (x < y)
theorem lx_irr : ∀ r : List Int, lx r r = false
 | [] => rfl
 | x :: xs => by unfold lx; rw [if_pos rfl]; exact lx_irr xs
theorem lx_tr : ∀ {a b c : List Int}, lx a b = true -> lx b c = true -> lx a c = true
 | [], [], _, h, _ => by cases h
 | [], _ :: _, [], _, h => by cases h
 | [], _ :: _, _ :: _, _, _ => rfl
 | _ :: _, [], _, h, _ => by cases h
 | _ :: _, _ :: _, [], _, h => by cases h
 | x :: xs, y :: ys, z :: zs, h, h' => by
  unfold lx at h h' ⊢
  split at h
  ·split at h'
   ·rename_i e1 e2; rw [if_pos (e1.trans e2)]; exact lx_tr h h'
   ·rename_i e1 e2
    simp only [decide_eq_true_eq] at h'
    rw [if_neg (by omega)]; simp only [decide_eq_true_eq]; omega
  ·simp only [decide_eq_true_eq] at h
   split at h'
   ·rename_i e1 e2
    rw [if_neg (by omega)]; simp only [decide_eq_true_eq]; omega
   ·simp only [decide_eq_true_eq] at h'
    rw [if_neg (by omega)]; simp only [decide_eq_true_eq]; omega
theorem lx_tot : ∀ {a b : List Int}, lx a b = false -> lx b a = false -> a = b
 | [], [], _, _ => rfl
 | [], _ :: _, h, _ => by cases h
 | _ :: _, [], _, h => by cases h
 | x :: xs, y :: ys, h, h' => by
  unfold lx at h h'
  split at h
  ·rename_i e; subst e; rw [if_pos rfl] at h'; rw [lx_tot h h']
  ·rename_i e
   rw [if_neg fun z => e z.symm] at h'
   simp only [decide_eq_false_iff_not] at h h'
   omega
def rk (rs : List (List Int)) (r : List Int) : Int := ((rs.countP fun x => lx x r : Nat) : Int)
theorem countP_lt {α : Type} {p q : α -> Bool} {a : α} : ∀ {l : List α}, (∀ x, p x = true -> q x = true) -> a ∈ l -> p a = false -> q a = true -> l.countP p < l.countP q
 | [], _, h, _, _ => by cases h
 | x :: l, hpq, h, h1, h2 => by
  have hm : l.countP p <= l.countP q := List.countP_mono_left fun x _ => hpq x
  rcases zR.mp h with rfl | h
  ·rw [List.countP_cons_of_neg (by rw [h1]; exact zJ), List.countP_cons_of_pos h2]; omega
  ·have := countP_lt hpq h h1 h2
   rw [List.countP_cons, List.countP_cons]
   cases e : p x with
   | true => rw [hpq x e]; simp; omega
   | false => cases e2 : q x <;> simp <;> omega
theorem rk_lt {rs : List (List Int)} {a b : List Int} (ha : a ∈ rs) : decide (rk rs a < rk rs b) = lx a b := by
 unfold rk
 cases h : lx a b with
 | true =>
  have := countP_lt (p := fun x => lx x a) (q := fun x => lx x b) (fun x hx => lx_tr hx h) ha (lx_irr a) h
  simp only [decide_eq_true_eq]; omega
 | false =>
  have hm : rs.countP (fun x => lx x b) <= rs.countP (fun x => lx x a) := List.countP_mono_left fun x _ hx => by
   cases h' : lx b a with
   | true => exact lx_tr hx h'
   | false => rw [lx_tot h h']; exact hx
  simp only [decide_eq_false_iff_not]; omega
end SmSort
namespace L2
open PySem PySem.Spec PyProof.Rows PySem.W SmSort
theorem ObjOk.at {P : Program} {w : World} {H : Hp} {h : Heap} {a : Addr} {o : HO} (x : ObjOk P w H h a o) : ∃ ob, h.get? a = some ob := by
 cases o with
 | lst xs => obtain ⟨_, _, _, _, e⟩ := x; exact ⟨_, e⟩
 | tup xs => obtain ⟨_, _, _, ob, e, _⟩ := x; exact ⟨_, e⟩
 | dK kvs => obtain ⟨_, _, _, _, o, _, _, e, _⟩ := x; exact ⟨_, e⟩
 | dT kvs => obtain ⟨_, _, _, _, o, _, _, e, _⟩ := x; exact ⟨_, e⟩
 | set S n => obtain ⟨o, _, _, _, e, _⟩ := x; exact ⟨_, e⟩
 | ins C dx fs => obtain ⟨_, _, _, e, _⟩ := x; exact ⟨_, e⟩
 | own y => obtain ⟨_, e⟩ := x; exact ⟨_, e⟩
 | xd fs => obtain ⟨_, ⟨_, _, _, e, _⟩, _⟩ := x; exact ⟨_, e⟩
 | rng lo hi => obtain ⟨_, _, _, e⟩ := x; exact ⟨_, e⟩
 | frz ob u => obtain ⟨e, _⟩ := x; exact ⟨_, e⟩
 | tbl ps => exact ⟨_, (show h.get? a = some _ from x)⟩
 | met f y => exact ⟨_, (show h.get? a = some _ from x)⟩
 | ext φ => obtain ⟨_, ⟨_, e⟩, _⟩ := x; exact ⟨_, e⟩
section
variable {X : Cx} {pins : List (Addr × Obj)} {σ : St} {H : Hp} {s : Shared}
theorem Inv.sortedTo {m : Str -> Option Value} {h' : Heap} {D : Addr} {its : List Value} {c : Nat} {xs : List V} (I : Inv X pins σ H s) (F0 : Fr X.base X.env.locals s.heap m) (F : Fr X.base X.env.locals h' m)
  (N : News X.base X.env.locals h' ((D, listOf its.toArray c) :: allNews X.base s.heap X.env.locals)) (lt : ∀ q ∈ allNews X.base s.heap X.env.locals, q.1 < D) (hv : Vals xs its) (hz : xs.length <= sizeLine) :
  Inv X pins σ (upd H D (.lst xs)) { s with heap := h' } /\ H D = none := by
 obtain ⟨eD, nL, nb⟩ := N (D, listOf its.toArray c) (.head _)
 have oldD : s.heap.get? D = none := by
  cases q : s.heap.get? D with
  | none => rfl
  | some o => exact absurd (lt (D, o) (mem_allNews nL nb q)) (zk _)
 have hD : H D = none := by
  cases q : H D with
  | none => rfl
  | some u =>
   obtain ⟨ob, e⟩ := (I.hok D u q).at
   rw [oldD] at e; cases e
 have keep : ∀ b o, b ≠ X.env.locals -> s.heap.get? b = some o -> h'.get? b = some o := fun b o hb e => by
  cases q : X.base.get? b with
  | some u =>
   have := I.bk b u q
   rw [e] at this; cases this
   exact F.keep b _ q
  | none => exact (N (b, o) (.tail _ (mem_allNews hb q e))).1
 have neD : ∀ b o, s.heap.get? b = some o -> b ≠ D := fun b o e z => by rw [z, oldD] at e; cases e
 have neT : ∀ b u, H b = some u -> b ≠ D := fun b u e z => by rw [z, hD] at e; cases e
 refine ⟨I.step (g' := s.gens) (t' := s.toks) (d' := s.drawn) (ch := []) (fun _ z => nomatch z) (fun b o hb _ _ e _ => keep b o hb e) (fun b o hb _ _ e _ => ⟨o.slots, keep b o hb e⟩) (fun b o _ e n => by rw [yy (neD b o e)]; exact n) (fun b o _ e => ?_)
  (fun b ys e => by rw [yy (neT b _ e)]; exact e) (fun b o u e => by rw [yy (neT b _ e)]; exact e) (fun b ps e => ⟨#[], by rw [yy (neT b _ e), e, Array.append_empty]⟩) (fun m' hm => ?_) (fun b u e => ?_) I.bare, hD⟩
 ·by_cases hb : b = X.env.locals
  ·obtain ⟨o', _, _, q, _⟩ := F.ns
   exact ⟨o', by rw [hb]; exact q⟩
  ·exact ⟨o, keep b o hb e⟩
 ·obtain ⟨o1, es1, ep1, e1, d1, k1, f1⟩ := hm
  obtain ⟨o2, es2, ep2, e2, d2, k2, f2⟩ := F0.ns
  rw [e1] at e2; cases e2
  rw [d1] at d2; cases d2
  obtain ⟨o3, es3, ep3, e3, d3, k3, f3⟩ := F.ns
  exact ⟨o3, es3, ep3, e3, d3, k3, fun name => (f3 name).trans ((f2 name).symm.trans (f1 name))⟩
 ·by_cases hb : b = D
  ·subst hb; rw [yn] at e; cases e
   exact ⟨hz, its, c, hv, eD⟩
  ·rw [yy hb] at e
   refine (I.hok b u e).stay (fun c v hc q => keep c v (fun z => ?_) q) (fun c q => by rw [yy (neT c _ q)]; exact q) fun c ys q => by rw [yy (neT c _ q)]; exact q
   rcases hc with rfl | hc
   ·rw [z, I.free] at e; cases e
   ·rw [z, I.free] at hc; cases hc
end
section
variable {prog : Program} {w : World} {A : Around} {E : Value -> Shared -> Prop} {s : Shared}
theorem sort_short {a : Addr} {its : List Value} {k : Nat} {P : PySem.Fin -> Shared -> Prop} (hx : s.heap.get? a = some (seqObj "list" its.toArray k)) (few : its.length < 2)
  (done : P (.done (.ret .none)) { s with heap := sortedHeap s.heap a its its.toArray }) : wpAny (model prog w) A (Builtin.«list.sort» ⟨[.ref a], []⟩) P E s := by
 have here : a < s.heap.objs.size := Heap.lt_size hx
 have line : its.length <= sizeLine := by rw [sizeLine_eq]; omega
 rw [list_sort_plain]
 obtain ⟨e1, at1⟩ : ∃ e1, (s.heap.update a (Obj.mapSeq fun _ => (#[] : Array Value))).get? a = some (seqObj "list" #[] e1) := ⟨_, get?_update_seq hx (fun _ => #[])⟩
 refine wpAny_bind (listItems_at hx rfl (wpAny_bind (listUpdate_at hx rfl (wpAny_bind (seqEpoch_at at1 rfl (wpAny_bind (wpAny_newTuple (wpAny_bind (wpAny_newList (wpAny_holding ?_) (zb _))) line))))
  (by rw [zN]; exact line) (zb _))))
 have at2 : (((s.heap.update a (Obj.mapSeq fun _ => (#[] : Array Value))).push (seqObj "tuple" its.toArray 0)).push (seqObj "list" #[] 0)).get? a = some (seqObj "list" #[] e1) :=
  Heap.get?_push_of_some _ (Heap.get?_push_of_some _ at1)
 show wpAny (model prog w) A _ P E { s with heap := ((s.heap.update a (Obj.mapSeq fun _ => (#[] : Array Value))).push (seqObj "tuple" its.toArray 0)).push (seqObj "list" #[] 0) }
 have less : its.toArray.size < 2 := by rw [zN]; exact few
 have snds : (arrOf (SortSt.mk' general' (its.toArray.zip its.toArray) #[] 7 none)).map (·.2) = its.toArray := by
  show (its.toArray.zip its.toArray).map (·.2) = its.toArray
  match its, few with
  | [], _ => simp
  | [_], _ => simp
 dsimp only
 rw [if_pos less, if_pos less]
 refine wpAny_bind (wpAny_pure ?_)
 rw [StateT.run_pure]
 refine wpAny_bind (wpAny_pure ?_)
 dsimp only
 refine wpAny_bind (seqEpoch_at at2 rfl (wpAny_bind (listUpdate_at at2 rfl ?_ (zb _) (by rw [snds, zN]; omega))))
 simp only [bne_self_eq_false, Bool.false_eq_true, if_false]
 rw [snds]
 exact wpAny_pure done
theorem sorted_short {l : Addr} {its : List Value} {Q : Value -> Shared -> Prop} (hl : s.heap.IsList l its.toArray) (few : its.length < 2)
  (done : Q (.ref (s.heap.objs.size + 1)) { s with heap := sortedAll s.heap its its.toArray }) : wpAny (model prog w) A (call (.builtin "sorted") [.ref l]) Q E s := by
 have line : its.length <= sizeLine := by rw [sizeLine_eq]; omega
 refine Calls.call_function_entry kind_sorted plain_sorted entry_sorted (args_sorted1 _) ?_
 unfold Builtin.«sorted»
 refine wpAny_bind (m := checkCount "sorted" 1 1 _) (wpAny_pure (wpAny_bind (collect_list hl (wpAny_bind (wpAny_newList ?_ line)) line)))
 have sz : ((s.heap.push (seqObj "list" #[] 0)).update s.heap.objs.size (Obj.mapSeq (· ++ its.toArray))).objs.size = s.heap.objs.size + 1 := by rw [Heap.size_update, size_push']
 have atL : (((s.heap.push (seqObj "list" #[] 0)).update s.heap.objs.size (Obj.mapSeq (· ++ its.toArray))).push (seqObj "list" its.toArray 0)).get? (s.heap.objs.size + 1) = some (seqObj "list" its.toArray 0) := by
  rw [<- sz]; exact Heap.get?_push_size _ rfl
 show wpAny _ _ _ _ _ { s with heap := ((s.heap.push (seqObj "list" #[] 0)).update s.heap.objs.size (Obj.mapSeq (· ++ its.toArray))).push (seqObj "list" its.toArray 0) }
 rw [sz]
 exact wpAny_bind (wpAny_holding (wpAny_call_entry slot_list_sort ⟨_, atL, rfl⟩ entry_list_sort (sort_short atL few ⟨_, rfl, wpAny_pure ⟨_, rfl, done⟩⟩) (args_list_sort _)))
end
section
variable {X : Cx}
theorem vals_refs : ∀ {ps : List (Addr × List Int)} {us : List Value}, Vals (ps.map fun a => V.ref a.1) us -> us = ps.map fun a => Value.ref a.1
 | [], us, r => by cases r; rfl
 | a :: ps, us, r => by
  cases r with
  | cons x y => rw [vals_refs y]; cases x; rfl
def RowAt (h : Heap) (a : Addr) (r : List Int) : Prop := ∃ o items n, h.get? a = some o /\ o.cls = .type "tuple" /\ o.data = .seq items n /\ Vals (r.map V.int) items.toList
theorem vals_lex {prog : Program} {w : World} {A : Around} {s : Shared} {b fin : Bool} {Q : Bool -> Shared -> Prop} : ∀ {r r' : List Int} {us us' : List Value} {i : Nat}, Vals (r.map V.int) us -> Vals (r'.map V.int) us' -> fin = decide (us.length < us'.length) -> Q (lx r r') s ->
  KatLex prog w A b fin Q (us.zip us') i s
 | [], [], us, us', i, ru, ru', hf, q => by cases ru; cases ru'; exact kat_nil (by rw [hf]; exact q)
 | [], _ :: _, us, us', i, ru, ru', hf, q => by
  cases ru; cases ru' with
  | cons _ _ => exact kat_nil (by rw [hf]; simpa [lx] using q)
 | _ :: _, [], us, us', i, ru, ru', hf, q => by
  cases ru'; cases ru with
  | cons _ _ => exact kat_nil (by rw [hf]; simpa [lx] using q)
 | x :: r, y :: r', us, us', i, ru, ru', hf, q => by
  cases ru with
  | cons rx ru =>
  cases ru' with
  | cons ry ru' =>
  obtain ⟨t, rfl⟩ := rx
  obtain ⟨t', rfl⟩ := ry
  refine kat_cons (wpAny_eqBool_int ?_)
  unfold lx at q
  by_cases e : x = y
  ·subst e
   rw [if_pos rfl] at q
   rw [show (x == x) = true from by simp]
   exact kat_yes (vals_lex ru ru' (by rw [hf]; simp) q)
  ·rw [if_neg e] at q
   rw [show (x == y) = false from by simpa using e]
   refine kat_no ?_
   cases (b && i == 0) with
   | true => exact oneLt_int q
   | false => exact kat_one _ _ (lt_int q)
theorem kat_tups {h : Heap} : ∀ {ps : List (Addr × List Int)}, (∀ a ∈ ps, RowAt h a.1 a.2 /\ a.2 ≠ []) -> ∃ fs, KatTups h (ps.map fun a => Value.ref a.1) fs /\ fs.length = ps.length /\ ∀ v ∈ fs, ∃ i t, v = Value.int i t
 | [], _ => ⟨[], KatTups.nil, rfl, fun _ z => nomatch z⟩
 | (a, r) :: ps, hp => by
  obtain ⟨fs, k, l, f⟩ := kat_tups fun a ha => hp a (.tail _ ha)
  obtain ⟨⟨o, items, n, ho, hc, hd, hv⟩, hn⟩ := hp (a, r) (.head _)
  match r, hn, hv with
  | x :: r, _, hv =>
   obtain ⟨u, hu, t, e⟩ := Vals.get (i := 0) hv rfl
   refine ⟨u :: fs, KatTups.cons ho hc hd (by rw [<- hu]; simp) k, by simp [l], fun v hv => ?_⟩
   rcases zR.mp hv with rfl | hv
   ·exact ⟨x, t, e⟩
   ·exact f v hv
theorem range_map {α : Type} (d : α) (l : List α) : (List.range l.length).map (fun i => l.getD i d) = l := by
 apply List.ext_getElem
 ·simp
 ·intro i h1 h2
  simp [List.getD, h2]
theorem vals_of_refs : ∀ (ps : List (Addr × List Int)), Vals (ps.map fun a => V.ref a.1) (ps.map fun a => Value.ref a.1)
 | [] => .nil
 | _ :: ps => .cons rfl (vals_of_refs ps)
theorem call_sortT : CallR X (.builtin "sorted") (fun xs H Q => ∃ p, ∃ ps : List (Addr × List Int), xs = [.ref p] /\ SqL X.K H p (ps.map fun a => V.ref a.1) /\ ps.length < 64 /\ (∀ a ∈ ps, H a.1 = some (.tup (a.2.map V.int)) /\ a.2 ≠ []) /\
  ∀ l qs, H l = none -> List.Perm qs ps -> qs.Pairwise (fun a b => lx b.2 a.2 = false) -> Q (.ref l) (upd H l (.lst (qs.map fun a => V.ref a.1)))) := by
 intro pins s σ H xs us Q I r h
 obtain ⟨p, ps, rfl, hq, h64, hrow, q⟩ := h
 obtain ⟨u, rfl, rx⟩ := vals1 r
 cases rx
 obtain ⟨its, r', pl, hz⟩ := I.list hq
 have ei := vals_refs r'
 subst ei
 have hlen : (ps.map fun a => Value.ref a.1).length = ps.length := by simp
 by_cases h2 : ps.length < 2
 ·refine sorted_short pl.isList (by omega) ?_
  have sz : ((s.heap.push (seqObj "list" #[] 0)).update s.heap.objs.size (Obj.mapSeq (· ++ (ps.map fun a => Value.ref a.1).toArray))).objs.size = s.heap.objs.size + 1 := by rw [Heap.size_update, size_push']
  have kp : ∀ b o, s.heap.get? b = some o -> (sortedAll s.heap (ps.map fun a => Value.ref a.1) (ps.map fun a => Value.ref a.1).toArray).get? b = some o := fun b o e => by
   have lb : b < s.heap.objs.size := Heap.lt_size e
   unfold sortedAll sortedHeap
   rw [Heap.get?_update_ne _ _ _ _ (zV (z6 lb))]
   refine Heap.get?_push_of_some _ (Heap.get?_push_of_some _ ?_)
   rw [Heap.get?_update_ne _ _ _ _ (zV (z6 lb))]
   refine Heap.get?_push_of_some _ ?_
   rw [Heap.get?_update_ne _ _ _ _ (zV lb)]
   exact Heap.get?_push_of_some _ e
  obtain ⟨c, ec⟩ : ∃ c, (sortedAll s.heap (ps.map fun a => Value.ref a.1) (ps.map fun a => Value.ref a.1).toArray).get? (s.heap.objs.size + 1) = some (seqObj "list" (ps.map fun a => Value.ref a.1).toArray c) := by
   have e0 := Heap.get?_push_size ((s.heap.push (seqObj "list" #[] 0)).update s.heap.objs.size (Obj.mapSeq (· ++ (ps.map fun a => Value.ref a.1).toArray))) (o := seqObj "list" (ps.map fun a => Value.ref a.1).toArray 0) rfl
   rw [sz] at e0
   unfold sortedAll sortedHeap
   have e1 := get?_update_seq e0 (fun _ => (#[] : Array Value))
   exact ⟨_, get?_update_seq (Heap.get?_push_of_some _ (Heap.get?_push_of_some _ e1)) _⟩
  refine ⟨.ref (s.heap.objs.size + 1), _, I.laid (t' := s.toks) kp (yM _) (show ObjOk X.prog X.w _ _ _ (.lst (ps.map fun a => V.ref a.1)) from ⟨hz, _, c, r', ec⟩), rfl, q _ ps (I.hok.fresh (yM _)) (List.Perm.refl _) ?_⟩
  match ps, h2 with
  | [], _ => exact .nil
  | [_], _ => exact List.pairwise_singleton _ _
 ·obtain ⟨m, F⟩ := I.fr
  refine kat_sorted F (news_all (g := X.base) (h := s.heap)) pl.isList (by omega) (by omega) fun D e1 h' F' N' lt => ?_
  have keep : ∀ b o, b ≠ X.env.locals -> s.heap.get? b = some o -> h'.get? b = some o := fun b o hb e => by
   cases q : X.base.get? b with
   | some u =>
    have := I.bk b u q
    rw [e] at this; cases this
    exact F'.keep b _ q
   | none => exact (N' (b, o) (.tail _ (mem_allNews hb q e))).1
  have rowAt : ∀ a ∈ ps, RowAt h' a.1 a.2 /\ a.2 ≠ [] := fun a ha => by
   obtain ⟨ht, hn⟩ := hrow a ha
   obtain ⟨_, its, rv, o, e, c, n, d⟩ := I.hok a.1 _ ht
   refine ⟨⟨o, _, n, keep a.1 o (fun z => ?_) e, c, d, rv⟩, hn⟩
   rw [z, I.free] at ht; cases ht
  obtain ⟨fs, kt, lf, hf⟩ := kat_tups rowAt
  refine kat_kind (T := .type "int") kt (by omega) (fun v hv => ?_) (by decide) ?_
  ·obtain ⟨i, t, rfl⟩ := hf v hv
   exact Looks.now
  have n1 : 1 <= (ps.map fun a => Value.ref a.1).length := by omega
  refine KOK.wp (c := cf fun i => rk (ps.map (·.2)) ((ps.map (·.2)).getD i [])) (fun i j C hi hj hC => ?_) (fun pp hp => ?_) _ (sort_ok (f := fun i => rk (ps.map (·.2)) ((ps.map (·.2)).getD i [])) n1)
  ·have hi' : i < ps.length := by omega
   have hj' : j < ps.length := by omega
   obtain ⟨⟨o, items, n, ho, hc, hd, hv⟩, hn⟩ := rowAt ps[i] (zY hi')
   obtain ⟨⟨o', items', n', ho', hc', hd', hv'⟩, hn'⟩ := rowAt ps[j] (zY hj')
   unfold kas_ask
   have ei : (ps.map fun a => Value.ref a.1).getD i Value.none = .ref ps[i].1 := by simp [hi']
   have ej : (ps.map fun a => Value.ref a.1).getD j Value.none = .ref ps[j].1 := by simp [hj']
   rw [ei, ej]
   refine kat_lt ho hd ho' hd' (vals_lex hv hv' (by simp) ?_)
   have e : cf (fun i => rk (ps.map (·.2)) ((ps.map (·.2)).getD i [])) i j = lx ps[i].2 ps[j].2 := by
    unfold cf
    have e1 : (ps.map (·.2)).getD i [] = ps[i].2 := by simp [hi']
    have e2 : (ps.map (·.2)).getD j [] = ps[j].2 := by simp [hj']
    simp only [e1, e2]
    exact rk_lt (zQ.mpr ⟨ps[i], zY hi', rfl⟩)
   rw [e] at hC
   exact hC
  ·obtain ⟨pm, up⟩ := hp
   refine KasFin.intro F' N' (UpdF.head fun x hx => zV (lt x hx)) fun h2' c F2 N2 => ?_
   have pl : pp.toList.Perm (List.range ps.length) := by
    have := pm.toList
    rw [hlen] at this
    simpa using this
   have eo : (pp.toList.map fun i => (ps.map fun a => Value.ref a.1).getD i Value.none) = (pp.toList.map fun i => ps.getD i (0, [])).map fun a => Value.ref a.1 := by
    rw [zo]
    refine yH fun i hi => ?_
    have hi' : i < ps.length := zp.mp (pl.mem_iff.mp hi)
    simp [hi']
   have perm : (pp.toList.map fun i => ps.getD i (0, [])).Perm ps := by
    have := pl.map fun i => ps.getD i (0, [])
    rwa [range_map] at this
   rw [eo] at N2
   have hzz : ((pp.toList.map fun i => ps.getD i (0, [])).map fun a => V.ref a.1).length <= sizeLine := by
    rw [zA, perm.length_eq, sizeLine_eq]; omega
   obtain ⟨I2, hD⟩ := I.sortedTo F F2 N2 lt (vals_of_refs _) hzz
   refine ⟨.ref D, _, I2, rfl, q D _ hD perm ?_⟩
   rw [yC]
   intro i j hi hj hij
   simp only [zA, Array.length_toList] at hi hj
   simp only [zt, Array.getElem_toList]
   have hn : pp.size = ps.length := by rw [pm.size]; exact hlen
   have key := up i j (yZ hij) (by omega)
   have a1 : pp[i] < ps.length := zp.mp (pl.mem_iff.mp (by simp))
   have a2 : pp[j] < ps.length := zp.mp (pl.mem_iff.mp (by simp))
   unfold g at'  at key
   simp only [hi, hj, getElem?_pos, Option.getD_some] at key
   have e1 : (ps.map (·.2)).getD pp[i] [] = ps[pp[i]].2 := by simp [a1]
   have e2 : (ps.map (·.2)).getD pp[j] [] = ps[pp[j]].2 := by simp [a2]
   rw [e1, e2] at key
   have e3 : ps.getD pp[i] (0, []) = ps[pp[i]] := by simp [a1]
   have e4 : ps.getD pp[j] (0, []) = ps[pp[j]] := by simp [a2]
   rw [e3, e4]
   have := rk_lt (rs := ps.map (·.2)) (a := ps[pp[j]].2) (b := ps[pp[i]].2) (zQ.mpr ⟨_, zY a2, rfl⟩)
   rw [<- this]
   simp only [decide_eq_false_iff_not]
   omega
end
end L2
set_option Elab.async false
set_option linter.all false
set_option maxRecDepth 100000
set_option maxHeartbeats 4000000
namespace L2
open PySem PySem.Spec PyProof.Rows
def notStar : Expr -> Bool
 | .Starred _ _ => false
 | _ => true
theorem star_cons {e : Expr} {es : List Expr} {env : Env} (h : notStar e = true) : starEach (e :: es) env = (false, eval e env) :: starEach es env := by
 cases e <;> first | rfl | cases h
@[irreducible] def PA2 (X : Cx) (es : List Expr) (t : TA) : Prop := PA X es t
theorem yl {X : Cx} {es : List Expr} {t : TA} (h : PA2 X es t) : PA X es t := by unfold PA2 at h; exact h
theorem pa_in {X : Cx} {es : List Expr} {t : TA} (h : PA X es t) : PA2 X es t := by unfold PA2; exact h
theorem yu {X : Cx} : PA2 X [] tNil := pa_in wB
theorem yo {X : Cx} {e : Expr} {es : List Expr} {te : TE} {t : TA} (ha : PE X e te) (hr : PA2 X es t) (hn : notStar e = true) : PA2 X (e :: es) (tCons te t) := pa_in (pa_cons ha (yl hr) (star_cons hn))
@[irreducible] def PSs2 (X : Cx) (es : List Stmt) (t : TS) : Prop := PSs X es t
theorem yw {X : Cx} {es : List Stmt} {t : TS} (h : PSs2 X es t) : PSs X es t := by unfold PSs2 at h; exact h
theorem bl_in {X : Cx} {es : List Stmt} {t : TS} (h : PSs X es t) : PSs2 X es t := by unfold PSs2; exact h
theorem xK {X : Cx} {a : Stmt} {t : TS} (h : PS X a t) : PSs2 X [a] t := bl_in (pss_one h)
theorem xC {X : Cx} {a b : Stmt} {rest : List Stmt} {t u : TS} (h : PS X a t) (hr : PSs2 X (b :: rest) u) : PSs2 X (a :: b :: rest) (tSeq t u) := bl_in (pss_cons h (yw hr))
end L2
namespace L2
open PySem PySem.Spec PyProof.Rows
section
variable {K : PySem.W.Frag} {a : Addr} {xs : List V} {n : Nat} {caps : List Nat} {g : TG} {tc : TT} {te : TE} {σ : St} {H : Hp} {Qf : Addr -> Hp -> List V -> Prop}
theorem comp_of {J : It} (Pv : Nat -> St -> List V -> Hp -> Prop) (len : Nat) (h0 : Pv 0 (tau0 n caps σ) [] H) (hn : len <= 1000) (hl : ∀ i τ acc H, Pv i τ acc H -> acc.length <= i)
  (hgo : ∀ i τ acc H, i < len -> Pv i τ acc H -> J.go i H) (hstop : ∀ τ acc H, Pv len τ acc H -> J.stop len H)
  (hs : ∀ i τ acc H (C : St -> List V -> Hp -> Prop), i < len -> Pv i τ acc H -> (∀ τ acc H, Pv (i + 1) τ acc H -> C τ acc H) -> ∀ x H', J.yld i H x H' -> g x τ H' fun τ2 H2 => tc τ2 H2 fun b H3 => if b = true then te τ2 H3 fun y H4 => C τ2 (acc ++ [y]) H4 else C τ2 acc H3)
  (hd : ∀ τ acc H, Pv len τ acc H -> ∀ p, H p = none -> Qf p H acc) :
  ∃ W : Nat -> Nat -> St -> List V -> Hp -> Prop, (∃ m, W 0 m (tau0 n caps σ) [] H) /\ ∀ i m τ acc H, W i m τ acc H ->
   (J.stop i H /\ acc.length <= sizeLine /\ ∀ p, H p = none -> Qf p H acc) \/
   (J.go i H /\ acc.length < sizeLine /\ ∀ x H', J.yld i H x H' -> g x τ H' fun τ2 H2 => tc τ2 H2 fun b H3 => if b = true then te τ2 H3 fun y H4 => ∃ m', m' < m /\ W (i + 1) m' τ2 (acc ++ [y]) H4 else ∃ m', m' < m /\ W (i + 1) m' τ2 acc H3) := by
 have line : 1001 <= sizeLine := by rw [sizeLine_eq]; decide
 refine ⟨fun i m τ acc H => m = len - i /\ i <= len /\ Pv i τ acc H, ⟨len, by simp, zb _, h0⟩, ?_⟩
 rintro i m τ acc H ⟨rfl, hi, p⟩
 have q := hl i τ acc H p
 by_cases hlt : i < len
 ·exact .inr ⟨hgo i τ acc H hlt p, by omega, fun x H' y => hs i τ acc H (fun τ acc H => ∃ m', m' < len - i /\ m' = len - (i + 1) /\ i + 1 <= len /\ Pv (i + 1) τ acc H) hlt p (fun τ acc H p' => ⟨len - (i + 1), by omega, rfl, hlt, p'⟩) x H' y⟩
 ·have e : i = len := by omega
  subst e
  exact .inl ⟨hstop τ acc H p, by omega, hd τ acc H p⟩
theorem comp_tup (Pv : Nat -> St -> List V -> Hp -> Prop) (h0 : Pv 0 (tau0 n caps σ) [] H) (hn : xs.length <= 1000) (hl : ∀ i τ acc H, Pv i τ acc H -> acc.length <= i /\ SqT K H a xs)
  (hs : ∀ i x τ acc H (C : St -> List V -> Hp -> Prop), xs[i]? = some x -> Pv i τ acc H -> (∀ τ acc H, Pv (i + 1) τ acc H -> C τ acc H) -> g x τ H fun τ2 H2 => tc τ2 H2 fun b H3 => if b = true then te τ2 H3 fun y H4 => C τ2 (acc ++ [y]) H4 else C τ2 acc H3)
  (hd : ∀ τ acc H, Pv xs.length τ acc H -> ∀ p, H p = none -> Qf p H acc) :
  ∃ W : Nat -> Nat -> St -> List V -> Hp -> Prop, (∃ m, W 0 m (tau0 n caps σ) [] H) /\ ∀ i m τ acc H, W i m τ acc H ->
   ((Itt K a).stop i H /\ acc.length <= sizeLine /\ ∀ p, H p = none -> Qf p H acc) \/
   ((Itt K a).go i H /\ acc.length < sizeLine /\ ∀ x H', (Itt K a).yld i H x H' -> g x τ H' fun τ2 H2 => tc τ2 H2 fun b H3 => if b = true then te τ2 H3 fun y H4 => ∃ m', m' < m /\ W (i + 1) m' τ2 (acc ++ [y]) H4 else ∃ m', m' < m /\ W (i + 1) m' τ2 acc H3) :=
 comp_of (J := Itt K a) Pv xs.length h0 hn (fun i τ acc H p => (hl i τ acc H p).1) (fun i τ acc H hi p => ⟨xs, xs[i], (hl i τ acc H p).2, by simp [hi]⟩) (fun τ acc H p => ⟨xs, (hl _ τ acc H p).2, zG _⟩)
  (fun i τ acc H C hi p c x H' y => by obtain ⟨e, y⟩ := y; subst e; exact hs i x τ acc _ C (y xs (hl i τ acc _ p).2) p c) hd
theorem comp_list (Pv : Nat -> St -> List V -> Hp -> Prop) (h0 : Pv 0 (tau0 n caps σ) [] H) (hn : xs.length <= 1000) (hl : ∀ i τ acc H, Pv i τ acc H -> acc.length <= i /\ SqL K H a xs)
  (hs : ∀ i x τ acc H (C : St -> List V -> Hp -> Prop), xs[i]? = some x -> Pv i τ acc H -> (∀ τ acc H, Pv (i + 1) τ acc H -> C τ acc H) -> g x τ H fun τ2 H2 => tc τ2 H2 fun b H3 => if b = true then te τ2 H3 fun y H4 => C τ2 (acc ++ [y]) H4 else C τ2 acc H3)
  (hd : ∀ τ acc H, Pv xs.length τ acc H -> ∀ p, H p = none -> Qf p H acc) :
  ∃ W : Nat -> Nat -> St -> List V -> Hp -> Prop, (∃ m, W 0 m (tau0 n caps σ) [] H) /\ ∀ i m τ acc H, W i m τ acc H ->
   ((Itl K a).stop i H /\ acc.length <= sizeLine /\ ∀ p, H p = none -> Qf p H acc) \/
   ((Itl K a).go i H /\ acc.length < sizeLine /\ ∀ x H', (Itl K a).yld i H x H' -> g x τ H' fun τ2 H2 => tc τ2 H2 fun b H3 => if b = true then te τ2 H3 fun y H4 => ∃ m', m' < m /\ W (i + 1) m' τ2 (acc ++ [y]) H4 else ∃ m', m' < m /\ W (i + 1) m' τ2 acc H3) :=
 comp_of (J := Itl K a) Pv xs.length h0 hn (fun i τ acc H p => (hl i τ acc H p).1) (fun i τ acc H hi p => ⟨xs, xs[i], (hl i τ acc H p).2, by simp [hi]⟩) (fun τ acc H p => ⟨xs, (hl _ τ acc H p).2, zG _⟩)
  (fun i τ acc H C hi p c x H' y => by obtain ⟨e, y⟩ := y; subst e; exact hs i x τ acc _ C (y xs (hl i τ acc _ p).2) p c) hd
theorem for_enumL {tb : TS} {D : Ends} (Pv : Nat -> St -> Hp -> Prop) (h0 : Pv 0 σ H) (hl : ∀ i σ H, i <= xs.length -> Pv i σ H -> SqL K H a xs)
  (hs : ∀ i x q σ H, xs[i]? = some x -> H q = none -> Pv i σ H -> g (.ref q) σ (upd H q (.tup [.int i, x])) fun σ2 H2 => tb { D with nx := Pv (i + 1), ct := Pv (i + 1), bk := D.nx } σ2 H2) (hd : ∀ σ H, Pv xs.length σ H -> D.nx σ H) :
  ∃ W : Nat -> Nat -> St -> Hp -> Prop, (∃ m, W 0 m σ H) /\ ∀ i m σ H, W i m σ H ->
   ((IteL K a).stop i H /\ D.nx σ H) \/ ((IteL K a).go i H /\ ∃ N : St -> Hp -> Prop, (∀ σ' H', N σ' H' -> ∃ m', m' < m /\ W (i + 1) m' σ' H') /\ ∀ x H', (IteL K a).yld i H x H' -> g x σ H' fun σ2 H2 => tb { D with nx := N, ct := N, bk := D.nx } σ2 H2) := by
 refine ⟨fun i m σ H => m = xs.length - i /\ i <= xs.length /\ Pv i σ H, ⟨xs.length, by simp, zb _, h0⟩, ?_⟩
 rintro i m σ H ⟨rfl, hi, p⟩
 have q := hl i σ H hi p
 by_cases hlt : i < xs.length
 ·refine .inr ⟨⟨xs, xs[i], q, by simp [hlt]⟩, Pv (i + 1), fun σ' H' p' => ⟨xs.length - (i + 1), by omega, rfl, hlt, p'⟩, fun x H' y => ?_⟩
  obtain ⟨q', x', hq, e1, e2, y⟩ := y
  subst e1; subst e2
  exact hs i x' q' σ _ (y xs q) hq p
 ·have e : i = xs.length := by omega
  subst e
  exact .inl ⟨⟨xs, q, zG _⟩, hd σ H p⟩
end
end L2
namespace Sm
open PySem L2 SmSort
def But (p : Addr) (H H' : Hp) : Prop := ∀ b u, b ≠ p -> H b = some u -> H' b = some u
theorem But.refl (p : Addr) (H : Hp) : But p H H := fun _ _ _ h => h
theorem But.trans {p : Addr} {H H1 H2 : Hp} (a : But p H H1) (b : But p H1 H2) : But p H H2 := fun c u n h => b c u n (a c u n h)
theorem But.set {p : Addr} {H : Hp} {o : HO} : But p H (upd H p o) := fun b u n h => by rw [yy n]; exact h
theorem But.new {p l : Addr} {H : Hp} {o : HO} (h : H l = none) : But p H (upd H l o) := fun b u n e => by rw [yy (yr e h)]; exact e
def Purse (H : Hp) (p : Addr) : Prop := ∃ a b c : Int, H p = some (.lst [.int a, .int b, .int c])
def Go (p : Addr) (H H' : Hp) : Prop := But p H H' /\ Purse H' p
theorem Go.trans {p : Addr} {H H1 H2 : Hp} (a : Go p H H1) (b : Go p H1 H2) : Go p H H2 := ⟨a.1.trans b.1, b.2⟩
theorem Go.refl {p : Addr} {H : Hp} (a : Purse H p) : Go p H H := ⟨But.refl p H, a⟩
theorem Purse.new {p l : Addr} {H : Hp} {o : HO} (a : Purse H p) (h : H l = none) : Purse (upd H l o) p := by
 obtain ⟨x, y, z, e⟩ := a
 exact ⟨x, y, z, by rw [yy (yr e h)]; exact e⟩
theorem Purse.ne {p l : Addr} {H : Hp} (a : Purse H p) (h : H l = none) : l ≠ p := by
 obtain ⟨x, y, z, e⟩ := a
 exact (yr e h).symm
theorem Go.new {p l : Addr} {H H1 : Hp} {o : HO} (a : Go p H H1) (h : H1 l = none) : Go p H (upd H1 l o) := ⟨a.1.trans (But.new h), a.2.new h⟩
theorem Purse.tup {p t : Addr} {H : Hp} {xs : List V} (a : Purse H p) (h : H t = some (.tup xs)) : t ≠ p := by
 obtain ⟨x, y, z, e⟩ := a
 exact xU h e (by intro z; cases z)
def Tups (H H' : Hp) : Prop := ∀ b xs, H b = some (.tup xs) -> H' b = some (.tup xs)
theorem Go.tups {p : Addr} {H H' : Hp} (a : Go p H H') (h : Purse H p) : Tups H H' := fun b xs e => a.1 b _ (h.tup e) e
theorem Tups.new {l : Addr} {H : Hp} {o : HO} (h : H l = none) : Tups H (upd H l o) := fun b u e => by rw [yy (yr e h)]; exact e
theorem Tups.set {l : Addr} {H : Hp} {xs : List V} {o : HO} (h : H l = some (.lst xs)) : Tups H (upd H l o) := fun b u e => by rw [yy (xU e h (by intro z; cases z))]; exact e
theorem Tups.same {H H' : Hp} (h : Same H H') : Tups H H' := fun b u e => h b _ e
structure M4 where
 lo : Int
 hi : Int
 t : Int
 m : Int
def M4.vs (r : M4) : List V := [.int r.lo, .int r.hi, .int r.t, .int r.m]
def apart (a b : M4) : Prop := a.lo ≠ b.lo /\ a.lo ≠ b.hi /\ a.hi ≠ b.lo /\ a.hi ≠ b.hi
structure Good (w : Int) (ms : List M4) : Prop where
 few : ms.length <= 60
 each : ∀ r ∈ ms, 0 <= r.lo /\ r.lo < r.hi /\ r.hi < w /\ 1 <= r.t /\ r.t <= 1000000000 /\ 1 <= r.m /\ r.m <= 99
 order : ms.Pairwise fun a b => a.t < b.t \/ (a.t = b.t /\ a.lo < b.lo /\ apart a b)
def RowsAt (H : Hp) (ps : List (Addr × M4)) : Prop := ∀ a ∈ ps, H a.1 = some (.tup a.2.vs)
structure BookAt (H : Hp) (b : Addr) (rooms : List Int) (tr tm : Addr) (ps : List (Addr × M4)) : Prop where
 book : H b = some (.tup [.ref tr, .ref tm])
 rooms : H tr = some (.tup (rooms.map V.int))
 meets : H tm = some (.tup (ps.map fun a => V.ref a.1))
 rows : RowsAt H ps
theorem RowsAt.tups {H H' : Hp} {ps : List (Addr × M4)} (a : RowsAt H ps) (t : Tups H H') : RowsAt H' ps := fun x hx => t _ _ (a x hx)
theorem BookAt.tups {H H' : Hp} {b tr tm : Addr} {rooms : List Int} {ps : List (Addr × M4)} (a : BookAt H b rooms tr tm ps) (t : Tups H H') : BookAt H' b rooms tr tm ps :=
 ⟨t _ _ a.book, t _ _ a.rooms, t _ _ a.meets, a.rows.tups t⟩
def spLaw (K : PySem.W.Frag) : Sp := fun vs H Q _ => ∃ (a : Addr) (ns : List Int), vs = [.ref a] /\ SqL K H a (ns.map V.int) /\ ns.length <= 63 /\ ∀ H', Q (.bl true) H'
def spPurse (K : PySem.W.Frag) : Sp := fun vs H Q _ => ∃ (a : Addr) (ns : List Int) (k : Nat), vs = [.ref a, .int k] /\ SqL K H a (ns.map V.int) /\ k < 1000 /\ ∀ p H', H p = none -> Purse H' p -> Same H H' -> Q (.ref p) H'
def spTake : Sp := fun vs H Q _ => ∃ p n, vs = [.ref p, .int n] /\ 0 < n /\ n < 2 ^ 200 /\ Purse H p /\ ∀ d H', 0 <= d -> d < n -> Go p H H' -> Q (.int d) H'
def spFar : Sp := fun vs H Q _ => ∃ p, vs = [.ref p] /\ Purse H p /\ ∀ d H', 0 <= d -> d <= 1000000000 -> Go p H H' -> Q (.int d) H'
def spRooms : Sp := fun vs H Q _ => ∃ p, ∃ n : Nat, vs = [.ref p, .int n] /\ n <= 1000 /\ Purse H p /\ ∀ (t : Addr) (rooms : List Int) (H' : Hp), Go p H H' -> H' t = some (.tup (rooms.map V.int)) -> rooms.length = n -> (∀ r ∈ rooms, (0 : Int) <= r /\ r <= 99) -> Q (.ref t) H'
def spStep : Sp := fun vs H Q _ => ∃ p, vs = [.ref p] /\ Purse H p /\ ∀ d H', 0 <= d -> d <= 16000000 -> Go p H H' -> Q (.int d) H'
def spMeetings : Sp := fun vs H Q _ => ∃ p, ∃ w : Int, ∃ n : Nat, vs = [.ref p, .int w, .int n] /\ n <= 60 /\ w < 1000 /\ (n = 0 \/ 2 <= w) /\ Purse H p /\
 ∀ (t : Addr) (ps : List (Addr × M4)) (H' : Hp), Go p H H' -> H' t = some (.tup (ps.map fun a => V.ref a.1)) -> RowsAt H' ps -> Good w (ps.map (·.2)) -> ps.length = n -> Q (.ref t) H'
def spBook : Sp := fun vs H Q _ => ∃ p, ∃ a : Int, ∃ n : Nat, vs = [.ref p, .int a, .int n] /\ 1 <= a /\ a <= 100 /\ n <= 60 /\ Purse H p /\
 ∀ (b : Addr) (rooms : List Int) (tr tm : Addr) (ps : List (Addr × M4)) (H' : Hp), Go p H H' -> BookAt H' b rooms tr tm ps -> 1 <= rooms.length -> (rooms.length : Int) <= a -> (∀ r ∈ rooms, (0 : Int) <= r /\ r <= 99) -> Good rooms.length (ps.map (·.2)) -> ps.length <= n -> Q (.ref b) H'
theorem iteD {c A B : Prop} [Decidable c] (h1 : c -> A) (h2 : ¬ c -> B) : if decide c = true then A else B := by
 by_cases h : c
 ·rw [if_pos (decide_eq_true h)]; exact h1 h
 ·rw [if_neg (by simpa using h)]; exact h2 h
theorem iteB0 {c : Bool} {A B : Prop} (hc : c = false) (h : B) : if c = true then A else B := by
 rw [if_neg (by rw [hc]; exact zJ)]; exact h
theorem iteB1 {c : Bool} {A B : Prop} (hc : c = true) (h : A) : if c = true then A else B := by
 rw [if_pos hc]; exact h
theorem iteB {c : Bool} {A B : Prop} (h1 : c = true -> A) (h2 : c = false -> B) : if c = true then A else B := by
 cases c with
 | true => exact h1 rfl
 | false => exact h2 rfl
theorem yt {H : Hp} {p : Addr} {o : HO} (h : H p = none) : Same H (upd H p o) := fun b u e => by
 rw [yy (yr e h)]; exact e
def M4.row (r : M4) : List Int := [r.t, r.lo, r.hi, r.m]
structure FOk (w when' : Int) (bs : List Int) (fs : List (Addr × M4)) : Prop where
 each : ∀ a ∈ fs, 0 <= a.2.lo /\ a.2.lo < a.2.hi /\ a.2.hi < w /\ 1 <= a.2.t /\ a.2.t <= when' /\ 1 <= a.2.m /\ a.2.m <= 99
 pw : fs.Pairwise fun a b => a.2.t = b.2.t -> apart a.2 b.2
 bz : ∀ a ∈ fs, a.2.t = when' -> a.2.lo ∈ bs /\ a.2.hi ∈ bs
theorem FOk.step {w wh gap one other m : Int} {bs bs' : List Int} {fs : List (Addr × M4)} {a : Addr} (F : FOk w wh bs fs) (h1 : 1 <= wh) (g0 : 0 <= gap) (o0 : 0 <= one) (o1 : one < w) (p0 : 0 <= other) (p1 : other < w) (ne : one ≠ other)
  (m0 : 1 <= m) (m1 : m <= 99) (hg : gap = 0 -> one ∉ bs /\ other ∉ bs) (hb : ∀ x ∈ bs, gap = 0 -> x ∈ bs') (hb1 : one ∈ bs') (hb2 : other ∈ bs') :
  FOk w (wh + gap) bs' (fs ++ [(a, ⟨if other < one then other else one, if other > one then other else one, wh + gap, m⟩)]) := by
 refine ⟨fun b hb => ?_, ?_, fun b hm e => ?_⟩
 ·rcases zZ.mp hb with h | h
  ·obtain ⟨a1, a2, a3, a4, a5, a6, a7⟩ := F.each b h
   exact ⟨a1, a2, a3, a4, by omega, a6, a7⟩
  ·cases zM.mp h
   by_cases c : other < one
   ·rw [if_pos c, if_neg (by omega)]; exact ⟨p0, c, o1, by show 1 <= wh + gap; omega, yY _, m0, m1⟩
   ·rw [if_neg c, if_pos (by omega)]; exact ⟨o0, by show one < other; omega, p1, by show 1 <= wh + gap; omega, yY _, m0, m1⟩
 ·rw [List.pairwise_append]
  refine ⟨F.pw, List.pairwise_singleton _ _, fun b hb c hc e => ?_⟩
  cases zM.mp hc
  have e' : b.2.t = wh + gap := e
  obtain ⟨a1, a2, a3, a4, a5, a6, a7⟩ := F.each b hb
  have g : gap = 0 := by omega
  obtain ⟨x1, x2⟩ := F.bz b hb (by omega)
  obtain ⟨n1, n2⟩ := hg g
  have q1 : b.2.lo ≠ one := fun z => n1 (z ▸ x1)
  have q2 : b.2.lo ≠ other := fun z => n2 (z ▸ x1)
  have q3 : b.2.hi ≠ one := fun z => n1 (z ▸ x2)
  have q4 : b.2.hi ≠ other := fun z => n2 (z ▸ x2)
  unfold apart
  dsimp only
  by_cases c : other < one
  ·rw [if_pos c, if_neg (by omega)]; exact ⟨q2, q1, q4, q3⟩
  ·rw [if_neg c, if_pos (by omega)]; exact ⟨q1, q2, q3, q4⟩
 ·rcases zZ.mp hm with h | h
  ·obtain ⟨a1, a2, a3, a4, a5, a6, a7⟩ := F.each b h
   obtain ⟨x1, x2⟩ := F.bz b h (by omega)
   exact ⟨hb _ x1 (by omega), hb _ x2 (by omega)⟩
  ·cases zM.mp h
   by_cases c : other < one
   ·rw [if_pos c, if_neg (by omega)]; exact ⟨hb2, hb1⟩
   ·rw [if_neg c, if_pos (by omega)]; exact ⟨hb1, hb2⟩
def M4.late (l : Int) (r : M4) : M4 := ⟨r.lo, r.hi, r.t + l, r.m⟩
theorem FOk.good {w wh l : Int} {bs : List Int} {fs qs : List (Addr × M4)} (F : FOk w wh bs fs) (n : fs.length <= 60) (l0 : 0 <= l) (l1 : fs ≠ [] -> wh + l <= 1000000000) (p : qs.Perm fs) (s : qs.Pairwise fun a b => lx b.2.row a.2.row = false) :
  Good w (qs.map fun a => a.2.late l) := by
 refine ⟨by rw [zA, p.length_eq]; exact n, fun r hr => ?_, ?_⟩
 ·obtain ⟨a, ha, rfl⟩ := zQ.mp hr
  have hm := p.mem_iff.mp ha
  obtain ⟨a1, a2, a3, a4, a5, a6, a7⟩ := F.each a hm
  have := l1 (List.ne_nil_of_mem hm)
  unfold M4.late
  exact ⟨a1, a2, a3, by show 1 <= a.2.t + l; omega, by show a.2.t + l <= 1000000000; omega, a6, a7⟩
 ·rw [yN]
  have ap : qs.Pairwise fun a b => a.2.t = b.2.t -> apart a.2 b.2 := (List.Perm.pairwise_iff (fun {x y} h e => by
   obtain ⟨a1, a2, a3, a4⟩ := h e.symm
   exact ⟨a1.symm, a3.symm, a2.symm, a4.symm⟩) p).mpr F.pw
  refine (s.and ap).imp fun {a b} ⟨h1, h2⟩ => ?_
  unfold M4.late
  dsimp only
  unfold M4.row lx at h1
  by_cases e : a.2.t = b.2.t
  ·have q := h2 e
   rw [if_pos e.symm] at h1
   unfold lx at h1
   rw [if_neg fun z => q.1 z.symm] at h1
   simp only [decide_eq_false_iff_not] at h1
   refine .inr ⟨by omega, ?_, q⟩
   have := q.1
   omega
  ·rw [if_neg fun z => e z.symm] at h1
   simp only [decide_eq_false_iff_not] at h1
   exact .inl (by omega)
def toM4 (r : List Int) : M4 := ⟨r.getD 1 0, r.getD 2 0, r.getD 0 0, r.getD 3 0⟩
theorem rows_back {fs : List (Addr × M4)} {qs : List (Addr × List Int)} (p : qs.Perm (fs.map fun a => (a.1, a.2.row))) (s : qs.Pairwise fun a b => lx b.2 a.2 = false) :
  ∃ rs : List (Addr × M4), rs.Perm fs /\ (rs.Pairwise fun a b => lx b.2.row a.2.row = false) /\ qs = rs.map fun a => (a.1, a.2.row) := by
 have e : qs = (qs.map fun a => (a.1, toM4 a.2)).map fun a => (a.1, a.2.row) := by
  rw [zo]
  refine (List.map_id qs).symm.trans (yH fun x hx => ?_)
  obtain ⟨a, _, rfl⟩ := zQ.mp (p.mem_iff.mp hx)
  rfl
 refine ⟨qs.map fun a => (a.1, toM4 a.2), ?_, ?_, e⟩
 ·have := p.map fun a => (a.1, toM4 a.2)
  rw [zo] at this
  refine this.trans (.of_eq ?_)
  refine (yH fun x _ => ?_).trans (List.map_id fs)
  rfl
 ·rw [e, yN] at s
  exact s
theorem flat_ints (bs : List Int) : (bs.map V.int).all flatV = true := by
 rw [yR]
 intro x hx
 obtain ⟨b, _, rfl⟩ := zQ.mp hx
 rfl
theorem inV_ints {x : Int} {bs : List Int} : inV (.int x) (bs.map V.int) = decide (x ∈ bs) := by
 unfold inV
 induction bs with
 | nil => rfl
 | cons b bs ih =>
  rw [zc, yg, ih]
  by_cases h : x = b
  ·subst h; simp [eqV]
  ·have h' : ¬ b = x := fun z => h z.symm
   simp [eqV, h, h']
def PvM (p lf : Addr) (w : Int) (n : Nat) (H : Hp) (i : Nat) (σ : St) (H3 : Hp) : Prop :=
 ∃ v6 v7 v8 v9 v10 wh lb bs, ∃ fs : List (Addr × M4), σ = [some (.ref p), some (.int w), some (.int n), some (.ref lf), some (.int wh), some (.ref lb), v6, v7, v8, v9, v10, none] /\
  H3 lf = some (.lst (fs.map fun a => V.ref a.1)) /\ H3 lb = some (.lst (List.map V.int bs)) /\ lb ≠ lf /\ lb ≠ p /\ (∀ a ∈ fs, H3 a.1 = some (.tup (a.2.row.map V.int))) /\ FOk w wh bs fs /\ fs.length = i /\ bs.length <= 2 * i /\ 1 <= wh /\ wh <= 10000000 + 16000000 * i /\ Go p H H3
theorem PvM.step {p lf lb t : Addr} {w wh gap one other m : Int} {n i : Nat} {H Hx : Hp} {bs bs' : List Int} {fs : List (Addr × M4)} {v6 v7 v8 v9 v10 : Option V} (npf : lf ≠ p) (hlf : H lf = none)
  (F : FOk w wh bs fs) (lenf : fs.length = i) (lenb : bs'.length <= 2 * i + 2) (wh1 : 1 <= wh) (wh2 : wh <= 10000000 + 16000000 * i) (hf : Hx lf = some (.lst (fs.map fun a => V.ref a.1))) (hb : Hx lb = some (.lst (List.map V.int bs'))) (nb : lb ≠ lf) (nbp : lb ≠ p)
  (rows : ∀ a ∈ fs, Hx a.1 = some (.tup (a.2.row.map V.int))) (go : Go p H Hx) (ht : Hx t = none)
  (g0 : 0 <= gap) (g1 : gap <= 16000000) (o0 : 0 <= one) (o1 : one < w) (p0 : 0 <= other) (p1 : other < w) (ne : one ≠ other) (m0 : 1 <= m) (m1 : m <= 99) (hg : gap = 0 -> one ∉ bs /\ other ∉ bs) (hb0 : ∀ x ∈ bs, gap = 0 -> x ∈ bs') (hb1 : one ∈ bs') (hb2 : other ∈ bs') :
  PvM p lf w n H (i + 1) [some (.ref p), some (.int w), some (.int n), some (.ref lf), some (.int (wh + gap)), some (.ref lb), v6, v7, v8, v9, v10, none]
   (upd (upd Hx t (.tup [.int (wh + gap), .int (if other < one then other else one), .int (if other > one then other else one), .int m])) lf (.lst ((fs.map fun a => V.ref a.1) ++ [.ref t]))) := by
 have ntf : t ≠ lf := (yr hf ht).symm
 refine ⟨v6, v7, v8, v9, v10, wh + gap, lb, bs', fs ++ [(t, ⟨if other < one then other else one, if other > one then other else one, wh + gap, m⟩)], rfl, by rw [yn, zL]; rfl, ?_, nb, nbp, fun a ha => ?_, F.step wh1 g0 o0 o1 p0 p1 ne m0 m1 hg hb0 hb1 hb2, by rw [zT, lenf]; rfl, by omega, by omega, by omega, fun b u nb e => ?_, ?_⟩
 ·rw [yy nb, yy (yr hb ht)]; exact hb
 ·rcases zZ.mp ha with h | h
  ·have := rows a h
   rw [yy (xU this hf (by intro z; cases z)), yy (yr this ht)]; exact this
  ·cases zM.mp h
   rw [yy ntf, yn]; rfl
 ·rw [yy (yr e hlf), yy (yr (go.1 b u nb e) ht)]; exact go.1 b u nb e
 ·have := go.2.new (o := .tup [.int (wh + gap), .int (if other < one then other else one), .int (if other > one then other else one), .int m]) ht
  obtain ⟨x, y, z, e⟩ := this
  exact ⟨x, y, z, by rw [yy npf.symm]; exact e⟩
theorem oth_ok {one x w : Int} (o0 : 0 <= one) (o1 : one < w) (x0 : 0 <= x) (x1 : x < w - 1) : 0 <= (one + 1 + x) % w /\ (one + 1 + x) % w < w /\ one ≠ (one + 1 + x) % w := by
 refine ⟨yX _ (by omega), yJ _ (by omega), ?_⟩
 by_cases h : one + 1 + x < w
 ·rw [Int.emod_eq_of_lt (by omega) h]; omega
 ·have e : (one + 1 + x) % w = (one + 1 + x - w) % w := by
   have : one + 1 + x = (one + 1 + x - w) + w := by omega
   rw [this, Int.add_emod_right]; congr 1; omega
  rw [e, Int.emod_eq_of_lt (by omega) (by omega)]; omega
theorem Go.same {p : Addr} {H H1 H2 : Hp} (a : Go p H H1) (s : Same H1 H2) : Go p H H2 := ⟨fun b u n e => s b u (a.1 b u n e), by obtain ⟨x, y, z, e⟩ := a.2; exact ⟨x, y, z, s _ _ e⟩⟩
theorem xO {α : Type} {f : α -> V} {l : List α} {i : Nat} {x : V} (h : (l.map f)[i]? = some x) : ∃ r, l[i]? = some r /\ x = f r := by
 rw [zC] at h
 cases e : l[i]? with
 | none => rw [e] at h; cases h
 | some r => rw [e] at h; exact ⟨r, rfl, (Option.some.inj h).symm⟩
theorem xR {α : Type} {l : List α} {i : Nat} {r : α} (h : l[i]? = some r) : l.take (i + 1) = l.take i ++ [r] := by
 rw [List.take_add_one, h]; rfl
theorem But.same {p : Addr} {H H1 H2 : Hp} (hp : H p = none) (s : Same H H1) (g : But p H1 H2) : Same H H2 := fun b u e => g b u (yr e hp) (s b u e)
theorem BookAt.same {H H' : Hp} {b tr tm : Addr} {rooms : List Int} {ps : List (Addr × M4)} (a : BookAt H b rooms tr tm ps) (t : Same H H') : BookAt H' b rooms tr tm ps := a.tups (Tups.same t)
theorem tyS_lst {H : Hp} {l : Addr} {xs : List V} (h : H l = some (.lst xs)) : tyS H (.ref l) = some "list" := by simp only [tyS, h]
def spWhole : Sp := fun vs H Q _ => ∃ x t, vs = [x] /\ tyS H x = some t /\ Q (.bl (t == "int")) H
def inB (lo hi : Int) : V -> Bool
 | .int i => decide (lo <= i) && decide (i <= hi)
 | _ => false
def spWithin : Sp := fun vs H Q _ => ∃ x t lo hi, vs = [x, .int lo, .int hi] /\ tyS H x = some t /\ Q (.bl (inB lo hi x)) H
theorem tyS_int {H : Hp} {x : V} (h : tyS H x = some "int") : ∃ i, x = .int i := by
 cases x with
 | int i => exact ⟨i, rfl⟩
 | ref a =>
  unfold tyS at h
  dsimp only at h
  split at h <;> simp at h
 | _ => simp [tyS] at h
theorem inB_no {H : Hp} {x : V} {t : String} {lo hi : Int} (h : tyS H x = some t) (n : ¬ t = "int") : inB lo hi x = false := by
 cases x with
 | int i => simp [tyS] at h; exact absurd h.symm n
 | _ => rfl
def hasW (w : Int) (r : M4) : Bool := decide (r.lo = w) || decide (r.hi = w)
def numsTo (ms : List M4) (w : Int) : Nat -> List Int
 | 0 => []
 | i + 1 => numsTo ms w i ++ (if (ms[i]?).any (hasW w) = true then [(i : Int)] else [])
end Sm
namespace Sm
open PySem L2 SmSort
def spTimeOf : Sp := fun vs H Q _ => ∃ p b j rooms tr tm ps, vs = [.ref p, .ref b, .int j] /\ (j = 0 \/ j = 1) /\ BookAt H b rooms tr tm ps /\ Good rooms.length (ps.map (·.2)) /\ Purse H p /\ ∀ d H', 0 <= d -> d <= 1000000000 -> Go p H H' -> Q (.int d) H'
def spLetter : Sp := fun vs H Q _ => ∃ p b rooms tr tm ps, vs = [.ref p, .ref b] /\ BookAt H b rooms tr tm ps /\ 1 <= rooms.length /\ rooms.length <= 1000 /\ Good rooms.length (ps.map (·.2)) /\ Purse H p /\
 ∀ t (s a w z : Int) H', Go p H H' -> H' t = some (.tup [.int s, .int a, .int w, .int z]) -> 0 <= s -> s < rooms.length -> 0 <= w -> w < rooms.length -> 0 <= a -> a <= 1000000000 -> 0 <= z -> z <= 1000000000 -> Q (.ref t) H'
theorem Good.len {w : Int} {ps : List (Addr × M4)} (g : Good w (ps.map (·.2))) : ps.length <= 60 := by simpa using g.few
theorem Good.at {w : Int} {ps : List (Addr × M4)} (g : Good w (ps.map (·.2))) {r : Addr × M4} (h : r ∈ ps) : 0 <= r.2.lo /\ r.2.lo < r.2.hi /\ r.2.hi < w /\ 1 <= r.2.t /\ r.2.t <= 1000000000 /\ 1 <= r.2.m /\ r.2.m <= 99 := g.each _ (zQ.mpr ⟨r, h, rfl⟩)
end Sm
namespace L2
open PySem PySem.Spec PyProof.Rows
def rCatT3 (K : PySem.W.Frag) : R2 := fun x y H Q => ∃ a b xs ys, x = .ref a /\ y = .ref b /\ SqT K H a xs /\ SqT K H b ys /\ xs.length + ys.length <= sizeLine /\
 (xs = [] -> Q (.ref b) H) /\ (xs ≠ [] -> ys = [] -> Q (.ref a) H) /\ (xs ≠ [] -> ys ≠ [] -> ∀ p, H p = none -> Q (.ref p) (upd H p (.tup (xs ++ ys))))
theorem op_catT3 {X : Cx} {K : PySem.W.Frag} (hK : X.K = K) : OpR X (binaryOp .Add) (rCatT3 K) := by
 subst hK
 intro pins s σ H x y v u Q I rx ry h
 obtain ⟨a, b, xs, ys, rfl, rfl, ha, hb, hz, q0, q1, q2⟩ := h
 by_cases hx : xs = []
 ·cases rx
  cases ry
  obtain ⟨its, r1, p1, _⟩ := I.tuple ha
  obtain ⟨its2, r2, p2, _⟩ := I.tuple hb
  have he : its = [] := r1.nil_iff.mpr hx
  obtain ⟨m, F⟩ := I.fr
  exact add_tuples F (news_all (g := X.base) (h := s.heap)) p1 p2 (fun _ => ⟨.ref b, H, I, rfl, q0 hx⟩) (fun z => absurd he z) (fun z => absurd he z) (by rw [<- r1.length, <- r2.length]; exact hz)
 ·exact op_catT pins s σ H _ _ v u Q I rx ry ⟨a, b, xs, ys, rfl, rfl, ha, hb, hx, hz, q1 hx, q2 hx⟩
end L2
set_option Elab.async false
set_option linter.all false
namespace Sm
open PySem L2 SmSort
theorem us1 {fd : FuncData} {ps : List Str} {us : List Value} (h : us.length = 1) (q : ∀ a, bindArgs fd ⟨[a], []⟩ = pure (ps.zip [a])) : bindArgs fd ⟨us, []⟩ = pure (ps.zip us) := match us, h with | [a], _ => q a
theorem us2 {fd : FuncData} {ps : List Str} {us : List Value} (h : us.length = 2) (q : ∀ a b, bindArgs fd ⟨[a, b], []⟩ = pure (ps.zip [a, b])) : bindArgs fd ⟨us, []⟩ = pure (ps.zip us) := match us, h with | [a, b], _ => q a b
theorem us3 {fd : FuncData} {ps : List Str} {us : List Value} (h : us.length = 3) (q : ∀ a b c, bindArgs fd ⟨[a, b, c], []⟩ = pure (ps.zip [a, b, c])) : bindArgs fd ⟨us, []⟩ = pure (ps.zip us) := match us, h with | [a, b, c], _ => q a b c
theorem us4 {fd : FuncData} {ps : List Str} {us : List Value} (h : us.length = 4) (q : ∀ a b c d, bindArgs fd ⟨[a, b, c, d], []⟩ = pure (ps.zip [a, b, c, d])) : bindArgs fd ⟨us, []⟩ = pure (ps.zip us) := match us, h with | [a, b, c, d], _ => q a b c d
end Sm
set_option Elab.async false
set_option linter.all false
set_option maxRecDepth 100000
set_option maxHeartbeats 4000000
namespace L2
open PySem PySem.Spec PyProof.Rows
section
variable {X : Cx}
def oV : Option Int -> V
 | none => .non
 | some i => .int i
theorem all_range {n : Nat} {e : Nat -> Bool} {b : Bool} (h : (∀ j, j < n -> e j = true) ↔ b = true) : (List.range n).all e = b := by
 cases b with
 | true => rw [yR]; intro j hj; exact h.mpr rfl j (zp.mp hj)
 | false =>
  cases c : (List.range n).all e with
  | false => rfl
  | true => exact absurd (h.mp fun j hj => yR.mp c j (zp.mpr hj)) (by simp)
end
end L2
namespace Sm
open PySem L2 SmSort
def spIsWalker : Sp := fun vs H Q _ => ∃ b x t rooms tr tm ps, vs = [.ref b, x] /\ BookAt H b rooms tr tm ps /\ tyS H x = some t /\ Q (.bl (inB 0 ((rooms.length : Int) - 1) x)) H
theorem tyS_tup {H : Hp} {l : Addr} {xs : List V} (h : H l = some (.tup xs)) : tyS H (.ref l) = some "tuple" := by simp only [tyS, h]
end Sm
set_option Elab.async false
set_option linter.all false
set_option maxRecDepth 100000
set_option maxHeartbeats 4000000
namespace Sm
open PySem L2 SmSort
abbrev Fn := Nat -> Option Int
def put (f : Fn) (k : Nat) (x : Option Int) : Fn := fun i => if i = k then x else f i
theorem put_same {f : Fn} {k : Nat} {x : Option Int} : put f k x k = x := by unfold put; rw [if_pos rfl]
theorem put_ne {f : Fn} {k i : Nat} {x : Option Int} (h : i ≠ k) : put f k x i = f i := by unfold put; rw [if_neg h]
def lone (k : Nat) (x : Int) : Fn := fun i => if i = k then some x else none
def below (o : Option Int) (t : Int) : Bool := match o with
 | some y => decide (y < t)
 | none => false
theorem below_iff {o : Option Int} {t : Int} : below o t = true ↔ ∃ y, o = some y /\ y < t := by
 cases o <;> simp [below]
def upto (o : Option Int) (t : Int) : Bool := match o with
 | some y => decide (y <= t)
 | none => false
structure W3 where
 g : Nat
 o : Nat
 t : Int
def two (m : M4) : List W3 := [⟨m.lo.toNat, m.hi.toNat, m.t⟩, ⟨m.hi.toNat, m.lo.toNat, m.t⟩]
def ways2 (ms : List M4) : List W3 := ms.flatMap two
def fstep (st : Fn) (x : W3) : Fn := if st x.o = none /\ below (st x.g) x.t = true then put st x.o (some x.t) else st
def fwd (ms : List M4) (st : Fn) : Fn := (ways2 ms).foldl fstep st
theorem fstep_some {st : Fn} {x : W3} {i : Nat} {y : Int} (h : st i = some y) : fstep st x i = some y := by
 unfold fstep
 split
 ·rename_i c
  by_cases e : i = x.o
  ·rw [e, c.1] at h; cases h
  ·rw [put_ne e]; exact h
 ·exact h
def rep (n : Nat) (f : Fn) : List (Option Int) := (List.range n).map f
def spBelow : Sp := fun vs H Q _ => ∃ o t, vs = [oV o, .int t] /\ Q (.bl (below o t)) H
end Sm
namespace L2
open PySem PySem.Spec PyProof.Rows
section
variable {n : Nat} {caps : List Nat} {g : TG} {tc : TT} {te : TE} {σ : St} {H : Hp} {Qf : Addr -> Hp -> List V -> Prop}
theorem x6 {lo : Int} {m : Nat} (Pv : Nat -> St -> List V -> Hp -> Prop) (h0 : Pv 0 (tau0 n caps σ) [] H) (hn : m <= 1000) (hl : ∀ i τ acc H, Pv i τ acc H -> acc.length <= i)
  (hs : ∀ i τ acc H (C : St -> List V -> Hp -> Prop), i < m -> Pv i τ acc H -> (∀ τ acc H, Pv (i + 1) τ acc H -> C τ acc H) -> g (.int (lo + i)) τ H fun τ2 H2 => tc τ2 H2 fun b H3 => if b = true then te τ2 H3 fun y H4 => C τ2 (acc ++ [y]) H4 else C τ2 acc H3)
  (hd : ∀ τ acc H, Pv m τ acc H -> ∀ p, H p = none -> Qf p H acc) :
  ∃ W : Nat -> Nat -> St -> List V -> Hp -> Prop, (∃ m, W 0 m (tau0 n caps σ) [] H) /\ ∀ i m' τ acc H, W i m' τ acc H ->
   ((Itr lo m).stop i H /\ acc.length <= sizeLine /\ ∀ p, H p = none -> Qf p H acc) \/
   ((Itr lo m).go i H /\ acc.length < sizeLine /\ ∀ x H', (Itr lo m).yld i H x H' -> g x τ H' fun τ2 H2 => tc τ2 H2 fun b H3 => if b = true then te τ2 H3 fun y H4 => ∃ m'', m'' < m' /\ W (i + 1) m'' τ2 (acc ++ [y]) H4 else ∃ m'', m'' < m' /\ W (i + 1) m'' τ2 acc H3) :=
 comp_of (J := Itr lo m) Pv m h0 hn hl (fun i τ acc H hi p => hi) (fun τ acc H p => zG _)
  (fun i τ acc H C hi p c x H' y => by obtain ⟨e1, e2⟩ := y; subst e1; subst e2; exact hs i τ acc _ C hi p c) hd
end
end L2
set_option Elab.async false
set_option linter.all false
set_option maxRecDepth 100000
set_option maxHeartbeats 4000000
namespace Sm
open PySem L2 SmSort
def run (ws : List W3) (st : Fn) : Fn := ws.foldl fstep st
theorem run_keep : ∀ {ws : List W3} {st : Fn} {i : Nat} {y : Int}, st i = some y -> run ws st i = some y
 | [], _, _, _, h => h
 | w :: ws, st, i, y, h => run_keep (ws := ws) (fstep_some h)
theorem run_from : ∀ {ws : List W3} {st : Fn} {i : Nat} {t : Int}, run ws st i = some t -> st i = none -> ∃ x ∈ ws, x.o = i /\ x.t = t /\ ∃ y, run ws st x.g = some y /\ y < t
 | [], st, i, t, h, h0 => by
  have : st i = some t := h
  rw [h0] at this; cases this
 | w :: ws, st, i, t, h, h0 => by
  have h' : run ws (fstep st w) i = some t := h
  cases e : fstep st w i with
  | none =>
   obtain ⟨x, hx, a, b, y, hy, lt⟩ := run_from h' e
   exact ⟨x, .tail _ hx, a, b, y, hy, lt⟩
  | some z =>
   have z' := run_keep (ws := ws) e
   rw [h'] at z'; cases z'
   unfold fstep at e
   split at e
   ·rename_i c
    by_cases io : i = w.o
    ·subst io
     rw [put_same] at e; cases e
     obtain ⟨y, hy, lt⟩ := below_iff.mp c.2
     exact ⟨w, .head _, rfl, rfl, y, run_keep (ws := w :: ws) hy, lt⟩
    ·rw [put_ne io, h0] at e; cases e
   ·rw [h0] at e; cases e
end Sm
set_option Elab.async false
set_option linter.all false
set_option maxRecDepth 100000
set_option maxHeartbeats 4000000
namespace L2
open PySem PySem.Spec PyProof.Rows
section
variable {X : Cx} {pins : List (Addr × Obj)} {σ : St} {H : Hp} {s : Shared}
theorem Inv.keptAll {m : Str -> Option Value} {h' : Heap} {tk : Nat} (I : Inv X pins σ H s) (F0 : Fr X.base X.env.locals s.heap m) (F : Fr X.base X.env.locals h' m)
  (N : News X.base X.env.locals h' (allNews X.base s.heap X.env.locals)) : Inv X pins σ H { s with heap := h', toks := tk } := by
 have keep : ∀ b o, b ≠ X.env.locals -> s.heap.get? b = some o -> h'.get? b = some o := fun b o hb e => by
  cases q : X.base.get? b with
  | some u =>
   have := I.bk b u q
   rw [e] at this; cases this
   exact F.keep b _ q
  | none => exact (N (b, o) (mem_allNews hb q e)).1
 refine I.step (g' := s.gens) (t' := tk) (d' := s.drawn) (ch := []) (fun _ z => nomatch z) (fun b o hb _ _ e _ => keep b o hb e) (fun b o hb _ _ e _ => ⟨o.slots, keep b o hb e⟩) (fun b o _ e n => n) (fun b o _ e => ?_)
  (fun b ys e => e) (fun b o u e => e) (fun b ps e => ⟨#[], by rw [e, Array.append_empty]⟩) (fun m' hm => ?_) (fun b u e => ?_) I.bare
 ·by_cases hb : b = X.env.locals
  ·obtain ⟨o', _, _, q, _⟩ := F.ns
   exact ⟨o', by rw [hb]; exact q⟩
  ·exact ⟨o, keep b o hb e⟩
 ·obtain ⟨o1, es1, ep1, e1, d1, k1, f1⟩ := hm
  obtain ⟨o2, es2, ep2, e2, d2, k2, f2⟩ := F0.ns
  rw [e1] at e2; cases e2
  rw [d1] at d2; cases d2
  obtain ⟨o3, es3, ep3, e3, d3, k3, f3⟩ := F.ns
  exact ⟨o3, es3, ep3, e3, d3, k3, fun name => (f3 name).trans ((f2 name).symm.trans (f1 name))⟩
 ·refine (I.hok b u e).stay (fun c v hc q => keep c v (fun z => ?_) q) (fun c q => q) fun c ys q => q
  rcases hc with rfl | hc
  ·rw [z, I.free] at e; cases e
  ·rw [z, I.free] at hc; cases hc
theorem bools_of : ∀ {bs : List Bool} {us : List Value}, Vals (bs.map V.bl) us -> LSm.BoolsAre us bs
 | [], us, r => by cases r; exact .nil
 | b :: bs, us, r => by
  cases r with
  | cons x y =>
   cases x
   exact .cons b (bools_of y)
theorem call_all {K : PySem.W.Frag} (hK : X.K = K) (hc : X.calm = true) : CallR X (.builtin "all") (fun xs H Q => ∃ p, ∃ bs : List Bool, xs = [.ref p] /\ SqL K H p (bs.map V.bl) /\ Q (.bl (bs.all id)) H) := by
 subst hK
 intro pins s σ H xs us Q I r h
 obtain ⟨p, bs, rfl, hq, q⟩ := h
 obtain ⟨u, rfl, rx⟩ := vals1 r
 cases rx
 obtain ⟨its, r', pl, hz⟩ := I.list hq
 obtain ⟨m, F⟩ := I.fr
 exact LSm.all_bools F (news_all (g := X.base) (h := s.heap)) (I.ok.hd hc) pl.isList (bools_of r') fun h' tk F' N' => ⟨.bl _, H, I.keptAll F F' N', rfl, q⟩
end
end L2
namespace Sm
open PySem L2 SmSort
end Sm
set_option Elab.async false
set_option linter.all false
set_option maxRecDepth 100000
set_option maxHeartbeats 4000000
namespace Sm
open PySem L2 SmSort
theorem Tups.setD {l : Addr} {H : Hp} {kvs : List (Key × V)} {o : HO} (h : H l = some (.dK kvs)) : Tups H (upd H l o) := fun b u e => by rw [yy (xU e h (by intro z; cases z))]; exact e
theorem Purse.same {H H' : Hp} {p : Addr} (h : Purse H p) (e : Same H H') : Purse H' p := by
 obtain ⟨x, y, z, q⟩ := h
 exact ⟨x, y, z, e _ _ q⟩
end Sm
set_option Elab.async false
set_option linter.all false
set_option maxRecDepth 100000
set_option maxHeartbeats 4000000
namespace Sm
open PySem L2 SmSort
def spOtherAt : Sp := fun vs H Q _ => ∃ b, ∃ k : Nat, ∃ v : Int, ∃ rooms tr tm ps, ∃ m : M4, vs = [.ref b, .int k, .int v] /\ BookAt H b rooms tr tm ps /\ (ps.map (·.2))[k]? = some m /\ Q (.int (if v = m.lo then m.hi else m.lo)) H
def spIsMeetNo : Sp := fun vs H Q _ => ∃ b x t rooms tr tm ps, vs = [.ref b, x] /\ BookAt H b rooms tr tm ps /\ tyS H x = some t /\ Q (.bl (inB 0 ((ps.length : Int) - 1) x)) H
end Sm
set_option Elab.async false
set_option linter.all false
set_option maxRecDepth 100000
set_option maxHeartbeats 4000000
namespace Sm
open PySem L2 SmSort
theorem Go.free {p l : Addr} {H H' : Hp} (g : Go p H H') (h : H' l = none) (np : l ≠ p) : H l = none := by
 cases e : H l with
 | none => rfl
 | some u => rw [g.1 l u np e] at h; cases h
theorem Go.put {p l : Addr} {H H' : Hp} {o : HO} (g : Go p H H') (h : H l = none) (np : l ≠ p) : Go p H (upd H' l o) := by
 refine ⟨fun b u nb e => by rw [yy (yr e h)]; exact g.1 b u nb e, ?_⟩
 obtain ⟨x, y, z, e⟩ := g.2
 exact ⟨x, y, z, by rw [yy np.symm]; exact e⟩
end Sm
set_option Elab.async false
set_option linter.all false
set_option maxRecDepth 100000
set_option maxHeartbeats 4000000
namespace Sm
open PySem L2 SmSort
theorem cut_take (xs : List V) (k : Nat) : cutV xs none (some (k : Int)) = xs.take k := by
 unfold cutV
 rw [HT.sIx_nat]
 show (xs.drop 0).take (min k xs.length - 0) = xs.take k
 rw [List.drop_zero, Nat.sub_zero]
 by_cases h : k <= xs.length
 ·rw [Nat.min_eq_left h]
 ·rw [Nat.min_eq_right (by omega), zd (zG _), zd (by omega)]
end Sm
namespace L2
open PySem
theorem iteN {c : Bool} {A : Prop} {D : Ends} {σ : St} {H : Hp} (Pre : St -> Hp -> Prop) (k : ∀ σ H, Pre σ H -> D.nx σ H) (h1 : c = true -> (∀ σ H, Pre σ H -> D.nx σ H) -> A) (h2 : c = false -> Pre σ H) : if c = true then A else tNext D σ H := by
 cases c with
 | true => exact h1 rfl k
 | false => exact k _ _ (h2 rfl)
end L2
set_option Elab.async false
set_option linter.all false
namespace Sm
open PySem L2 SmSort
theorem iteO {c : Bool} {A B : Prop} {D : Ends} {σ : St} {H : Hp} (Pre : St -> Hp -> Prop) (k : ∀ σ H, Pre σ H -> D.nx σ H) (h1 : c = true -> (∀ σ H, Pre σ H -> D.nx σ H) -> A) (h2 : c = false -> (∀ σ H, Pre σ H -> D.nx σ H) -> B) : if c = true then (if true = true then A else tNext D σ H) else B := by
 cases c with
 | true => exact h1 rfl k
 | false => exact h2 rfl k
theorem iteA {c : Bool} {T2 A : Prop} {D : Ends} {σ : St} {H : Hp} (Pre : St -> Hp -> Prop) (k : ∀ σ H, Pre σ H -> D.nx σ H) (h1 : c = true -> (∀ σ H, Pre σ H -> D.nx σ H) -> T2) (h2 : c = false -> Pre σ H) : if c = true then T2 else (if false = true then A else tNext D σ H) := by
 cases c with
 | true => exact h1 rfl k
 | false => exact k _ _ (h2 rfl)
end Sm
set_option Elab.async false
set_option linter.all false
set_option maxRecDepth 100000
set_option maxHeartbeats 4000000
namespace Sm
open PySem L2 SmSort
theorem ahead {n : Nat} {ms : List M4} {m : M4} (g : Good n (ms ++ [m])) {v : Nat} {x y : Int} {i : Nat} (hi : i ≠ v) (h : fwd ms (lone v x) i = some y) : y <= m.t /\ ((i = m.lo.toNat \/ i = m.hi.toNat) -> y < m.t) := by
 obtain ⟨a, ha, ao, at', _⟩ := run_from (ws := ways2 ms) h (by simp [lone, hi])
 unfold ways2 at ha
 obtain ⟨c, hc, hx⟩ := List.mem_flatMap.mp ha
 have od := (List.pairwise_append.mp g.order).2.2 c hc m (by simp)
 obtain ⟨c1, c2, c3, _⟩ := g.each c (by simp [hc])
 obtain ⟨m1, m2, m3, _⟩ := g.each m (by simp)
 unfold two at hx
 simp only [zR, List.not_mem_nil, or_false] at hx
 have ct : c.t = y := by rcases hx with rfl | rfl <;> exact at'
 have ci : i = c.lo.toNat \/ i = c.hi.toNat := by
  rcases hx with rfl | rfl
  ·exact .inr ao.symm
  ·exact .inl ao.symm
 refine ⟨by rcases od with h | h <;> omega, fun hm => ?_⟩
 rcases od with h | ⟨h1, h2, h3, h4, h5, h6⟩
 ·omega
 ·exfalso
  rcases ci with e | e <;> rcases hm with e' | e' <;> omega
end Sm
set_option Elab.async false
set_option linter.all false
set_option maxRecDepth 100000
set_option maxHeartbeats 4000000
namespace L2
open PySem PySem.Spec PyProof.Rows
section
variable {X : Cx} {pins : List (Addr × Obj)} {σ : St} {H : Hp} {s : Shared}
theorem ps_setComp {ix : Nat} {xn : Str} {pos' spos : Pos} {own : List Str} {caps : List Nat} {elt tg iter : Expr} {ifs : List Expr} {scope : Scope} {pos : Pos} {wi : TI} {g : TG} {tc : TT} {te : TE} (hN : X.N.Nodup) (hix : X.N[ix]? = some xn) (hxl : Loc X.env.scope xn) (hc : X.calm = true) (S : CompScope own caps X.N X.env.scope scope) (hi : PI X tg iter wi)
  (hg : ∀ s H fp C, PG (cxComp X own caps scope s H fp C) tg g) (ht : ∀ s H fp C, PTs (cxComp X own caps scope s H fp C) ifs tc) (he : ∀ s H fp C, PE (cxComp X own caps scope s H fp C) elt te)
  (hs : ∀ x, foldedSetIterable iter X.env x = pure x := by intro _; rfl) (hsw : swapsWith (.ListComp elt [⟨tg, iter, ifs, 0⟩] scope pos) (some (.Name xn pos')) spos.line X.env = pure true := by rfl)
  (hf : X.fn xn = true \/ X.env.scope.names.lookup xn = some .local := by first | exact .inl rfl | exact .inr rfl | assumption) :
  PS X (.Assign [.Name xn pos'] (.ListComp elt [⟨tg, iter, ifs, 0⟩] scope pos) spos) (tAsg (tComp own.length caps wi g tc te) (gName ix)) := by
 intro pins s σ H D0 I h
 rw [exec_Assign_Name_used _ _ _ _ hsw, arm_evalThenUse_ListComp]
 suffices main : wpAny (model X.prog X.w) X.A (comprehension (.ListComp elt [⟨tg, iter, ifs, 0⟩] scope pos) scope X.env (firstIterPos [⟨tg, iter, ifs, 0⟩] pos) (newList []) false (eval iter X.env) (some (assign (.Name xn pos') X.env))) (fun _ s1 => SP X pins D0 .next s1) X.xe s from
  wpAny_bind (wpAny_standAt (wpAny_bind (wpAny_bind (wpAny_mono main (fun _ s1 h => wpAny_pure (wpAny_pure h)) fun _ _ e => e))))
 refine wpAny_comprehension_free (use := some _) (cl := clOf scope.names X.env []) rfl hs (closureFor_eq fun y hy e => I.ok.has y.1 (S.fr y hy e)) S.kind S.loc
  (wpAny_mono (hi pins s σ H _ I h) (fun v s1 h1 => thn h1 fun itv s2 h2 => ?_) fun _ _ e => e)
 obtain ⟨it, fp, tn, J, H2, e, I2, T, st2, f2, W, ⟨m0, w0⟩, turn⟩ := h2
 subst e
 refine wpAny_newObj_type (wpAny_newFunctionEnv S.nocell (by intro y hy; simp at hy) (fun h₁ hns₁ hsb₁ => ?_) S.kind)
 dsimp only at hns₁ hsb₁ ⊢
 generalize hH2 : s2.heap.push { cls := .type "list", dict := none, data := .seq ([] : List Value).toArray } = G at hns₁ hsb₁ ⊢
 have hG : G.objs.size = s2.heap.objs.size + 1 := by rw [<- hH2, Heap.size_push]
 have hDC : s2.heap.objs.size ≠ G.objs.size := by rw [hG]; exact zV (yc _)
 have hCle : s2.heap.objs.size <= G.objs.size := by rw [hG]; exact yM _
 have below : ∀ b, b < s2.heap.objs.size -> b ≠ G.objs.size := fun b hb => by rw [hG]; exact zV (z6 hb)
 have old : ∀ b o, s2.heap.get? b = some o -> h₁.get? b = some o := fun b o e => hsb₁.extBut b o (below b (Heap.lt_size e)) (Heap.get?_push_of_some _ (hH2 ▸ Heap.get?_push_of_some _ e))
 have hacc : h₁.get? s2.heap.objs.size = some { cls := .type "list", dict := none, data := .seq ([] : List Value).toArray } := hsb₁.extBut _ _ hDC (Heap.get?_push_of_some _ (hH2 ▸ Heap.get?_push_size _ rfl))
 have fl : ∀ b ∈ fp, b < s2.heap.objs.size := fun b hb => let ⟨o, e, _⟩ := T.obj _ _ st2 b hb; Heap.lt_size e
 have hns₁' : h₁.Ns G.objs.size fun _ => none := hns₁
 have I4 := inv_comp (tk := s2.toks + ([] : List (Str × Value)).length) I2 S f2 fl (zG _) hCle hDC old hns₁' hacc (fun v z => nomatch z)
 have st4 : tn 0 h₁ := T.keep _ _ _ st2 fun b _ o e => old b o e
 generalize hs4 : ({ s2 with heap := h₁, toks := s2.toks + ([] : List (Str × Value)).length } : Shared) = s4 at I4 ⊢
 have e4 : s4.heap = h₁ := by rw [<- hs4]
 rw [<- e4] at st4
 -- the loop
 have loop : codeAny (model X.prog X.w) X.A (.compLoop (.ListComp elt [⟨tg, iter, ifs, 0⟩] scope pos) 0 (.ref it) (.ref s2.heap.objs.size) (compEnvC scope (clOf scope.names X.env []) G.objs.size X.env))
   (compPost (model X.prog X.w) X.A X.xe (some (assign (.Name xn pos') X.env)) (fun _ s1 => SP X pins D0 .next s1) (.ref s2.heap.objs.size) G.objs.size) s4 := by
  let Y := cxComp X own caps scope s2 H2 fp G.objs.size
  have stat : ∀ {H' : Hp} {its : List Value} {n : Nat}, (∀ b ∈ fp, H' b = none) -> ∀ b ∈ fp, FpOk Y [(s2.heap.objs.size, ({ cls := .type "list", data := .seq its.toArray n } : Obj))] H' b := fun {H' its n} hn b hb => by
   refine ⟨hn b hb, below b (fl b hb), fun z => ?_, .inl hb, fun x c e => (f2 b hb).2.2.2.2.1 x c (xW e), fun p hp => ?_⟩
   ·rcases zR.mp (I2.stkSub b z) with e | e
    ·exact (f2 b hb).2.1 e
    ·exact (f2 b hb).2.2.1 e
   ·have e : p = (s2.heap.objs.size, ({ cls := .type "list", data := .seq its.toArray n } : Obj)) := by simpa using (show p ∈ [] ++ [_] from hp)
    subst e
    exact yi (fl b hb)
  refine loop_comp (fun n s' => ∃ i τ acc its k H', Inv Y [(s2.heap.objs.size, ({ cls := .type "list", data := .seq its.toArray k } : Obj))] τ H' s' /\ tn i s'.heap /\ (∀ b ∈ fp, H' b = none) /\ Vals acc its /\ W i n τ acc H') ?_ m0
   ⟨0, _, [], [], 0, H2, I4, st4, fun b hb => (f2 b hb).1, .nil, w0⟩
  rintro n s5 ⟨i, τ, acc, its, k, H5, I5, st5, fr5, rv5, w5⟩
  rcases turn i n τ acc H5 w5 with ⟨stop, hz, q⟩ | ⟨go, hz, step⟩
  ·refine thn (T.done Y rfl rfl rfl hc i _ s5 τ H5 (fun _ _ => False) I5 (stat fr5) st5 stop) fun r s6 ⟨hr, I6⟩ => ?_
   subst hr
   obtain ⟨eD, nD, _, _, _⟩ := I6.pin _ (zS _ (zM.mpr rfl))
   obtain ⟨m6, hm6, _⟩ := I6.loc
   have hC6 : H5 G.objs.size = none := I6.free
   have hok6 : HOk X.prog X.w H5 s6.heap := I6.hok
   have ub := I6.base
   have IX : Inv X pins σ (upd H5 s2.heap.objs.size (.lst acc)) s6 := by
    refine I2.call' (ch := fp) (s' := s6) I6.os ⟨fun b o e n' hb hx => ub.keep b o e n' hb hx, fun b o e n' hb hx => ?_, fun b o e n' hx => ?_, fun b o e hx => ?_, fun b xs e => ?_, fun b o u e => ?_, fun b ps e => ?_⟩
     (hok6.track nD ⟨hz, its, k, rv5, eD⟩) I6.bare fun b hb => ⟨(f2 b hb).2.2.2.1, (f2 b hb).2.1, (f2 b hb).2.2.2.2.1, (f2 b hb).2.2.2.2.2⟩
    ·exact ub.slot b o e n' hb hx
    ·rw [yy (zV (Heap.lt_size e))]
     exact ub.free b o e n' hx
    ·exact ub.there b o e hx
    ·have z := ub.tups b xs e
     rw [yy (yr z nD)]; exact z
    ·have z := ub.frzs b o u e
     rw [yy (yr z nD)]; exact z
    ·obtain ⟨more, z⟩ := ub.tbls b ps e
     exact ⟨more, by rw [yy (yr z nD)]; exact z⟩
   have hCX : (upd H5 s2.heap.objs.size (.lst acc)) G.objs.size = none := by rw [yy (Ne.symm hDC)]; exact hC6
   have fC : FpOk X pins (upd H5 s2.heap.objs.size (.lst acc)) G.objs.size := I2.fpOk hCle hCX
   obtain ⟨oC, esC, epC, gC, dC, rC⟩ := hm6
   have IP := IX.pinned (fp := [G.objs.size]) (fun b hb => by cases zM.mp hb; exact fC) (fun b hb => by cases zM.mp hb; exact ⟨oC, gC, fun v z => by rw [dC] at z; cases z⟩)
   refine wpAny_assign_Name (store_ok IP hN hix hxl (v := .ref s2.heap.objs.size) rfl (fun s7 I7 => ?_) hf)
   have pC := (I7.pin (G.objs.size, oC) (zS _ (zS _ (xz (zM.mpr rfl) gC)))).1
   refine ⟨m6, ⟨oC, esC, epC, pC, dC, rC⟩, fun h' hsb => ?_⟩
   have I8 : Inv X pins (σ.set ix (some (.ref s2.heap.objs.size))) (upd H5 s2.heap.objs.size (.lst acc)) { s7 with heap := h' } := I7.unpinned.turned (t' := s7.toks) (fun b o hb e => hsb.extBut b o hb e) fC.1 fC.2.1 fC.2.2.2.1 fC.2.2.2.2.1 fC.2.2.2.2.2
   exact ⟨_, _, I8, q _ nD⟩
  ·refine thn (T.item Y rfl rfl rfl hc i _ s5 τ H5 (fun _ _ => False) I5 (stat fr5) st5 go) fun r s6 ⟨u, hr, h6⟩ => ?_
   subst hr
   refine thn h6 fun _ s7 ⟨x, H7, I7, r7, y7, st7, fr7⟩ => ?_
   have I7' := I7.pinned (stat fr7) (T.obj _ _ st7)
   refine thn (hg s2 H2 fp G.objs.size _ s7 τ H7 x u _ I7' r7 (step x H7 y7)) fun _ s8 ⟨τ8, H8, I8, q8⟩ => ?_
   refine thn (ht s2 H2 fp G.objs.size _ s8 τ8 H8 _ I8 q8) fun ok s9 ⟨H9, I9, q9⟩ => ?_
   -- the iterator's state behind the turn
   have back : ∀ {s' : Shared} {τ' : St} {H' : Hp}, Inv Y ([(s2.heap.objs.size, ({ cls := .type "list", data := .seq its.toArray k } : Obj))] ++ pinsAt fp s7.heap) τ' H' s' -> (tn (i + 1) s'.heap /\ ∀ b ∈ fp, H' b = none) := fun {s' τ' H'} Ib =>
    ⟨T.keep _ _ _ st7 fun b hb o e => (Ib.pin (b, o) (zS _ (zS _ (xz hb e)))).1, fun b hb => by
     obtain ⟨o, e, d⟩ := T.obj _ _ st7 b hb
     exact (Ib.pin (b, o) (zS _ (zS _ (xz hb e)))).2.1⟩
   cases ok with
   | false =>
    obtain ⟨m', hm', w'⟩ := q9
    obtain ⟨sb, fb⟩ := back I9
    exact ⟨m', hm', i + 1, τ8, acc, its, k, H9, I9.unpinned, sb, fb, rv5, w'⟩
   | true =>
    refine thn (he s2 H2 fp G.objs.size _ s9 τ8 H9 _ I9 q9) fun y s10 ⟨yv, H10, I10, r10, q10⟩ => ?_
    obtain ⟨m', hm', w'⟩ := q10
    obtain ⟨sb, fb⟩ := back I10
    obtain ⟨eD, nD, neD, nfD, _⟩ := I10.pin (s2.heap.objs.size, _) (zS _ (yL _ (zM.mpr rfl)))
    have hl : acc.length = its.length := rv5.length
    refine call_meets F.slot_list_append ⟨_, eD, rfl⟩ F.entry_list_append (F.args_list_append_2 _ _) (PySem.list_append s2.heap.objs.size its.toArray k y (by rw [zN]; omega)) ⟨eD, ?_⟩
    have q := PySem.IsL.update eD (fun a : Array Value => a.push y)
    have Iu : Inv Y [] τ8 H10 s10 := I10.pins_of fun p hp => nomatch hp
    have It := Iu.turned (t' := s10.toks) (it := s2.heap.objs.size) (h' := s10.heap.update s2.heap.objs.size (Obj.mapSeq (fun a : Array Value => a.push y))) (fun b o hb e => (Heap.get?_update_other s10.heap _ (Ne.symm hb)).trans e) nD neD (.inr (zG _))
     (fun x c e z => by
      obtain ⟨v, ob, hob, _⟩ := I2.cell x c (xW e)
      exact absurd (Heap.lt_size hob) (by rw [z]; exact zk _)) (fun p hp => nomatch hp)
    have It' := It.pins_of (pins' := [(s2.heap.objs.size, ({ cls := .type "list", data := .seq (its ++ [y]).toArray (k + 1) } : Obj))]) fun p hp => by
     have e : p = _ := zM.mp hp
     subst e
     exact ⟨by simpa using q, nD, neD, nfD, fun v z => nomatch z⟩
    refine ⟨m', hm', i + 1, τ8, acc ++ [yv], its ++ [y], _, H10, It', T.keep _ _ _ sb fun b hb o e => (Heap.get?_update_other s10.heap _ (yi (fl b hb))).trans e, fb, rv5.append (.cons r10 .nil), w'⟩
 exact codeAny_compStart_list loop (T.self _ 0 s4 _ _ st4 loop)
end
end L2
set_option Elab.async false
set_option linter.all false
set_option maxRecDepth 100000
set_option maxHeartbeats 400000
namespace L2
open PySem PySem.Spec PyProof.Rows
open AutoSeq1 (wpAny_loadPart')
section
variable {X : Cx}
end
end L2
namespace Sm
open PySem L2 SmSort
end Sm
namespace Sm
open PySem L2 SmSort
theorem atI_ex {xs : List V} {i : Int} (h0 : 0 <= i) (h1 : i < xs.length) : ∃ v, atI xs i = some v /\ v ∈ xs := by
 obtain ⟨k, rfl⟩ := zO h0
 have hk : k < xs.length := by omega
 exact ⟨xs[k], xM (zE hk), zY hk⟩
end Sm
namespace L2
open PySem
end L2
namespace Sm
open PySem L2
end Sm
set_option Elab.async false
set_option linter.all false
set_option maxRecDepth 100000
set_option maxHeartbeats 400000
namespace Sm
open PySem L2 SmSort
def jstep (row F : Fn) (x : W3) : Fn := if below (row x.g) x.t = true /\ upto (F x.o) x.t = false then put F x.o (some x.t) else F
def jac (ws : List W3) (row : Fn) : Fn := ws.foldl (jstep row) row
def jrow (ws : List W3) (row : Fn) : Nat -> Fn
 | 0 => row
 | k + 1 => jac ws (jrow ws row k)
def rk (ws : List W3) : Option Int -> Nat
 | none => ws.length + 1
 | some y => ws.countP fun x => decide (x.t < y)
end Sm
set_option Elab.async false
set_option linter.all false
set_option maxRecDepth 100000
set_option maxHeartbeats 400000
namespace Sm
open PySem L2 SmSort
structure Rows (H0 H : Hp) (ms : List M4) (n k : Nat) (x : Int) (as : List Addr) : Prop where
 pos : as ≠ []
 few : as.length <= 200000
 at' : ∀ (i : Nat) (a : Addr), as[i]? = some a -> H0 a = none /\ H a = some (.lst ((rep n (jrow (ways2 ms) (lone k x) i)).map oV))
 ne : ∀ i, i + 1 < as.length -> rep n (jrow (ways2 ms) (lone k x) (i + 1)) ≠ rep n (jrow (ways2 ms) (lone k x) i)
 last : rep n (jrow (ways2 ms) (lone k x) as.length) = rep n (jrow (ways2 ms) (lone k x) (as.length - 1))
end Sm
namespace L2
open PySem PySem.Spec PyProof.Rows
section
variable {K : PySem.W.Frag} {a : Addr} {xs : List V} {n : Nat} {caps : List Nat} {g : TG} {tc : TT} {te : TE} {σ : St} {H : Hp} {Qf : Addr -> Hp -> List V -> Prop}
end
end L2
namespace Sm
open PySem L2 SmSort
end Sm
namespace Sm
open PySem L2 SmSort
end Sm
namespace Sm
open PySem L2
end Sm
set_option Elab.async false
set_option linter.all false
set_option maxRecDepth 100000
set_option maxHeartbeats 400000
namespace Sm
open PySem L2 SmSort
def again (ms : List M4) (day first : Int) : Nat -> List M4
 | 0 => []
 | r + 1 => again ms day first r ++ ms.map (M4.late ((first + r) * day))
end Sm
set_option Elab.async false
set_option linter.all false
set_option maxRecDepth 100000
set_option maxHeartbeats 400000
namespace L2
open PySem PySem.Spec PyProof.Rows
section
variable {X : Cx} {pins : List (Addr × Obj)} {σ : St} {H : Hp} {s : Shared}
theorem xo {xs : List V} {us : List Value} (r : Vals xs us) {j : Nat} (h : j < us.toArray.size) : ∃ x, xs[j]? = some x /\ RelV x us.toArray[j] := by
 have hl := r.length
 simp only [zN] at h
 have a1 : j < xs.length := by omega
 obtain ⟨u, eu, ru⟩ := r.get (i := j) (x := xs[j]) (by simp [a1])
 have e1 : us.toArray[j] = u := by rw [List.getElem_toArray]; exact Option.some.inj ((zE h).symm.trans eu)
 exact ⟨xs[j], by simp [a1], by rw [e1]; exact ru⟩
end
end L2
set_option Elab.async false
set_option linter.all false
set_option maxRecDepth 100000
set_option maxHeartbeats 400000
namespace Sm
open PySem L2 SmSort
def whenOf (ms : List M4) (j : Int) : Int := ((ms[j.toNat]?).map (·.t)).getD 0
def whens (ms : List M4) (k : Nat) : List Int := (numsTo ms k ms.length).map (whenOf ms)
section
variable {n k w : Nat} {ms : List M4} {day : Int}
end
end Sm
set_option Elab.async false
set_option linter.all false
set_option maxRecDepth 100000
set_option maxHeartbeats 400000
namespace L2
open PySem PySem.Spec PyProof.Rows
def Eqv (K : PySem.W.Frag) (H : Hp) : Nat -> V -> V -> Bool -> Prop
 | 0, x, y, b => (x = y /\ (∃ a, x = .ref a) /\ b = true) \/ (flatV x = true /\ flatV y = true /\ b = eqV x y)
 | n + 1, x, y, b => (x = y /\ (∃ a, x = .ref a) /\ b = true) \/ (flatV x = true /\ flatV y = true /\ b = eqV x y) \/ ∃ (a c : Addr) (xs ys : List V) (e : Nat -> Bool), x = .ref a /\ y = .ref c /\ ((SqL K H a xs /\ SqL K H c ys) \/ (SqT K H a xs /\ SqT K H c ys)) /\ (a = c -> b = true) /\ b = (decide (xs.length = ys.length) && (List.range xs.length).all e) /\ ∀ (i : Nat) (x y : V), xs[i]? = some x -> ys[i]? = some y -> Eqv K H n x y (e i)
section
variable {X : Cx} {pins : List (Addr × Obj)} {σ : St} {H : Hp} {s : Shared}
theorem eqv_eq (I : Inv X pins σ H s) : ∀ (n : Nat) {A : Around} {x y : V} {b : Bool} {u v : Value}, A.units + n < cLine -> Eqv X.K H n x y b -> RelV x u -> RelV y v -> SeqAt.EqAt A s u v b
 | n, A, x, y, b, u, v, hu, h, ru, rv => by
  have base1 : x = y /\ (∃ a, x = .ref a) /\ b = true -> SeqAt.EqAt A s u v b := by
   rintro ⟨rfl, ⟨a, rfl⟩, rfl⟩
   cases ru; cases rv
   exact SeqAt.EqAt.same _
  have base2 : flatV x = true /\ flatV y = true /\ b = eqV x y -> SeqAt.EqAt A s u v b := by
   rintro ⟨h1, h2, rfl⟩
   exact eqAt_V (A := A) (s := s) ru rv h1 h2
  cases n with
  | zero => exact h.elim base1 base2
  | succ n =>
   rcases h with h | h | ⟨a, c, xs, ys, e, rfl, rfl, h, hs, hb, hi⟩
   ·exact base1 h
   ·exact base2 h
   ·cases ru; cases rv
    by_cases ne : a = c
    ·rw [hs ne, ne]; exact SeqAt.EqAt.same _
    refine SeqAt.EqAt.of_refs ne ?_
    rcases h with ⟨h1, h2⟩ | ⟨h1, h2⟩
    ·obtain ⟨its, r1, p1, _⟩ := I.list h1
     obtain ⟨its2, r2, p2, _⟩ := I.list h2
     have l1 := r1.length
     have l2 := r2.length
     by_cases hl : xs.length = ys.length
     ·have := SeqAt.RcAt.lists (A := A) (e := e) p1.isList p2.isList (by simp; omega) (by omega) fun j h1 h2 => by
       obtain ⟨x, ex, rx⟩ := xo r1 h1
       obtain ⟨y, ey, ry⟩ := xo r2 h2
       exact eqv_eq I n (by show A.units + 1 + n < cLine; omega) (hi j x y ex ey) rx ry
      rw [hb, decide_eq_true hl, yO, l1]
      simpa using this
     ·rw [hb, decide_eq_false hl, yE]
      exact SeqAt.RcAt.lists_lengths (A := A) p1.isList p2.isList (by simp; omega) (by omega)
    ·obtain ⟨its, r1, p1, _⟩ := I.tuple h1
     obtain ⟨its2, r2, p2, _⟩ := I.tuple h2
     have l1 := r1.length
     have l2 := r2.length
     have := SeqAt.RcAt.tuples (A := A) (e := e) p1 p2 (by omega) fun j h1 h2 => by
      obtain ⟨x, ex, rx⟩ := xo r1 h1
      obtain ⟨y, ey, ry⟩ := xo r2 h2
      exact eqv_eq I n (by show A.units + 1 + n < cLine; omega) (hi j x y ex ey) rx ry
     by_cases hl : xs.length = ys.length
     ·rw [hb, decide_eq_true hl, yO, l1]
      have e1 : its2.length = its.length := by omega
      simpa [e1] using this
     ·rw [hb, decide_eq_false hl, yE]
      have e1 : ¬ its.length = its2.length := by omega
      have e2 : (its.toArray.size == its2.toArray.size) = false := by simp [e1]
      rw [e2, Bool.and_false] at this
      exact this
def rEqv (K : PySem.W.Frag) (neg : Bool) : R2 := fun x y H Q => ∃ (n : Nat) (a c : Addr) (xs ys : List V) (e : Nat -> Bool) (b : Bool), n <= 20 /\ x = .ref a /\ y = .ref c /\ ((SqL K H a xs /\ SqL K H c ys) \/ (SqT K H a xs /\ SqT K H c ys)) /\ b = (decide (xs.length = ys.length) && (List.range xs.length).all e) /\ (∀ (i : Nat) (x y : V), xs[i]? = some x -> ys[i]? = some y -> Eqv K H n x y (e i)) /\ Q (.bl (if neg then !b else b)) H
theorem op_eqE (hu : X.A.units + 64 < cLine) : OpR X (compareOp .Eq) (rEqv X.K false) := by
 intro pins s σ H x y v u Q I rx ry h
 obtain ⟨n, a, c, xs, ys, e, b, hn, rfl, rfl, h, hb, hi, q⟩ := h
 cases rx; cases ry
 rw [if_neg (by decide), hb] at q
 rcases h with ⟨h1, h2⟩ | ⟨h1, h2⟩
 ·obtain ⟨its, r1, p1, _⟩ := I.list h1
  obtain ⟨its2, r2, p2, _⟩ := I.list h2
  have l1 := r1.length
  have l2 := r2.length
  by_cases hl : xs.length = ys.length
  ·rw [decide_eq_true hl, yO, l1] at q
   exact SeqAt.RcAt.lists (e := e) p1.isList p2.isList (by simp; omega) (by omega) (fun j h1 h2 => by
    obtain ⟨x, ex, rx⟩ := xo r1 h1
    obtain ⟨y, ey, ry⟩ := xo r2 h2
    exact eqv_eq I n (by show X.A.units + 1 + n < cLine; omega) (hi j x y ex ey) rx ry) _ _ _ _ ⟨.bl _, H, I, rfl, by simpa using q⟩
  ·rw [decide_eq_false hl, yE] at q
   exact SeqAt.RcAt.lists_lengths p1.isList p2.isList (by simp; omega) (by omega) _ _ _ _ ⟨.bl _, H, I, rfl, q⟩
 ·obtain ⟨its, r1, p1, _⟩ := I.tuple h1
  obtain ⟨its2, r2, p2, _⟩ := I.tuple h2
  have l1 := r1.length
  have l2 := r2.length
  have key : ((List.range (min its.toArray.size its2.toArray.size)).all e && its.toArray.size == its2.toArray.size) = (decide (xs.length = ys.length) && (List.range xs.length).all e) := by
   by_cases hl : xs.length = ys.length
   ·have e1 : its2.length = its.length := by omega
    rw [decide_eq_true hl, yO, l1]; simp [e1]
   ·have e1 : ¬ its.length = its2.length := by omega
    rw [decide_eq_false hl, yE]; simp [e1]
  rw [<- key] at q
  exact SeqAt.RcAt.tuples (e := e) p1 p2 (by omega) (fun j h1 h2 => by
   obtain ⟨x, ex, rx⟩ := xo r1 h1
   obtain ⟨y, ey, ry⟩ := xo r2 h2
   exact eqv_eq I n (by show X.A.units + 1 + n < cLine; omega) (hi j x y ex ey) rx ry) _ _ _ _ ⟨.bl _, H, I, rfl, q⟩
theorem op_neE (hu : X.A.units + 64 < cLine) : OpR X (compareOp .NotEq) (rEqv X.K true) := by
 intro pins s σ H x y v u Q I rx ry h
 obtain ⟨n, a, c, xs, ys, e, b, hn, rfl, rfl, h, hb, hi, q⟩ := h
 cases rx; cases ry
 rw [if_pos rfl, hb] at q
 rcases h with ⟨h1, h2⟩ | ⟨h1, h2⟩
 ·obtain ⟨its, r1, p1, _⟩ := I.list h1
  obtain ⟨its2, r2, p2, _⟩ := I.list h2
  have l1 := r1.length
  have l2 := r2.length
  by_cases hl : xs.length = ys.length
  ·rw [decide_eq_true hl, yO, l1] at q
   exact SeqAt.RcNeAt.lists (e := e) p1.isList p2.isList (by simp; omega) (by omega) (fun j h1 h2 => by
    obtain ⟨x, ex, rx⟩ := xo r1 h1
    obtain ⟨y, ey, ry⟩ := xo r2 h2
    exact eqv_eq I n (by show X.A.units + 1 + n < cLine; omega) (hi j x y ex ey) rx ry) _ _ _ _ ⟨.bl _, H, I, rfl, by simpa using q⟩
  ·rw [decide_eq_false hl, yE] at q
   exact SeqAt.RcNeAt.lists_lengths p1.isList p2.isList (by simp; omega) (by omega) _ _ _ _ ⟨.bl _, H, I, rfl, q⟩
 ·obtain ⟨its, r1, p1, _⟩ := I.tuple h1
  obtain ⟨its2, r2, p2, _⟩ := I.tuple h2
  have l1 := r1.length
  have l2 := r2.length
  have key : ((List.range (min its.toArray.size its2.toArray.size)).all e && its.toArray.size == its2.toArray.size) = (decide (xs.length = ys.length) && (List.range xs.length).all e) := by
   by_cases hl : xs.length = ys.length
   ·have e1 : its2.length = its.length := by omega
    rw [decide_eq_true hl, yO, l1]; simp [e1]
   ·have e1 : ¬ its.length = its2.length := by omega
    rw [decide_eq_false hl, yE]; simp [e1]
  rw [<- key] at q
  exact SeqAt.RcNeAt.tuples (e := e) p1 p2 (by omega) (fun j h1 h2 => by
   obtain ⟨x, ex, rx⟩ := xo r1 h1
   obtain ⟨y, ey, ry⟩ := xo r2 h2
   exact eqv_eq I n (by show X.A.units + 1 + n < cLine; omega) (hi j x y ex ey) rx ry) _ _ _ _ ⟨.bl _, H, I, rfl, q⟩
end
theorem Eqv.rows {α : Type} [DecidableEq α] {f : α -> V} (hf : ∀ x, flatV (f x) = true) (he : ∀ x y, eqV (f x) (f y) = decide (x = y)) {K : PySem.W.Frag} {H : Hp} {n : Nat} {a c : Addr} {xs ys : List α} (h : (H a = some (.lst (xs.map f)) /\ H c = some (.lst (ys.map f))) \/ (H a = some (.tup (xs.map f)) /\ H c = some (.tup (ys.map f)))) : Eqv K H (n + 1) (.ref a) (.ref c) (decide (xs = ys)) := by
 have fi : ∀ x y, f x = f y -> x = y := fun x y e => by
  have := he x y
  rw [e, he y y] at this
  simpa using this.symm
 have inj : ∀ {l m : List α}, l.map f = m.map f -> l = m := fun {l m} e => List.map_inj_right (fun x y => fi x y) |>.mp e
 refine .inr (.inr ⟨a, c, xs.map f, ys.map f, fun i => decide (xs[i]? = ys[i]?), rfl, rfl, h.imp (fun h => ⟨SqL.of h.1, SqL.of h.2⟩) (fun h => ⟨SqT.of h.1, SqT.of h.2⟩), fun e => ?_, ?_, fun i x y hx hy => ?_⟩)
 ·subst e
  rw [decide_eq_true_eq]
  rcases h with ⟨h1, h2⟩ | ⟨h1, h2⟩
  ·rw [h1] at h2
   injection h2 with h2; injection h2 with h2; exact inj h2
  ·rw [h1] at h2
   injection h2 with h2; injection h2 with h2; exact inj h2
 ·rw [zA, zA]
  by_cases hl : xs.length = ys.length
  ·rw [decide_eq_true hl, yO]
   symm
   refine all_range ?_
   simp only [decide_eq_true_eq]
   constructor
   ·intro h
    apply List.ext_getElem?
    intro j
    by_cases hj : j < xs.length
    ·exact h j hj
    ·rw [List.getElem?_eq_none (by omega), List.getElem?_eq_none (by omega)]
   ·rintro rfl j _; rfl
  ·rw [decide_eq_false hl, yE, decide_eq_false_iff_not]
   rintro rfl; exact hl rfl
 ·rw [zC] at hx hy
  cases e1 : xs[i]? with
  | none => rw [e1] at hx; cases hx
  | some p =>
   cases e2 : ys[i]? with
   | none => rw [e2] at hy; cases hy
   | some q =>
    rw [e1] at hx; rw [e2] at hy
    cases hx; cases hy
    have key : flatV (f p) = true /\ flatV (f q) = true /\ decide (some p = some q) = eqV (f p) (f q) := ⟨hf p, hf q, by
     rw [he]
     simp⟩
    cases n with
    | zero => exact .inr (by simpa only [e1, e2] using key)
    | succ n => exact .inr (.inl (by simpa only [e1, e2] using key))
theorem eqV_int (x y : Int) : eqV (.int x) (.int y) = decide (x = y) := rfl
end L2
set_option Elab.async false
set_option linter.all false
set_option maxRecDepth 100000
set_option maxHeartbeats 400000
namespace Sm
open PySem L2 SmSort
end Sm
namespace Sm
open PySem L2 SmSort
theorem oV_scal (a b : Option Int) : scal (oV a) (oV b) = true := by cases a <;> cases b <;> rfl
end Sm
set_option Elab.async false
set_option linter.all false
set_option maxRecDepth 100000
set_option maxHeartbeats 400000
namespace SmSet
open PySem
def adv (m : Nat) (p : SetTable.Probe) : SetTable.Probe :=
 if p.more > 0 then { p with j := p.j + 1, more := p.more - 1 } else
 { p with j := (SetTable.leap m p.i p.perturb).1, more := SetTable.runEnd m (SetTable.leap m p.i p.perturb).1 - (SetTable.leap m p.i p.perturb).1, i := (SetTable.leap m p.i p.perturb).1, perturb := (SetTable.leap m p.i p.perturb).2 }
def run (m i u : Nat) : SetTable.Probe := { j := i, more := SetTable.runEnd m i - i, i, perturb := u, dummy := none }
def start (m : Nat) (h : Int) : SetTable.Probe := run m (SetTable.bits h % (m + 1)) (SetTable.bits h)
def ad (m : Nat) : Nat -> SetTable.Probe -> SetTable.Probe
 | 0, p => p
 | n + 1, p => ad m n (adv m p)
def at' (m : Nat) (h : Int) (n : Nat) : Nat := (ad m n (start m h)).j
def runs (m : Nat) : Nat -> Nat -> Nat -> Nat × Nat
 | 0, i, u => (i, u)
 | r + 1, i, u => runs m r ((i * 5 + 1 + u / 32) % (m + 1)) (u / 32)
theorem runs_add {m : Nat} : ∀ (a b i u : Nat), runs m (a + b) i u = runs m b (runs m a i u).1 (runs m a i u).2
 | 0, b, i, u => by rw [Nat.zero_add]; rfl
 | a + 1, b, i, u => by rw [Nat.succ_add]; exact runs_add a b _ _
theorem runs_perturb {m : Nat} : ∀ (r i u : Nat), (runs m r i u).2 = u / 32 ^ r
 | 0, i, u => by simp [runs]
 | r + 1, i, u => by
  show (runs m r _ (u / 32)).2 = _
  rw [runs_perturb r, Nat.div_div_eq_div_mul, Nat.pow_succ, Nat.mul_comm]
theorem runs_small {m : Nat} : ∀ (r i u : Nat), i <= m -> (runs m r i u).1 <= m
 | 0, i, u, h => h
 | r + 1, i, u, h => runs_small r _ _ (Nat.lt_succ_iff.mp (Nat.mod_lt _ (by omega)))
def f5 (m : Nat) : Nat -> Nat -> Nat
 | 0, i => i
 | s + 1, i => f5 m s ((i * 5 + 1) % (m + 1))
theorem runs_f5 {m : Nat} : ∀ (s i : Nat), (runs m s i 0).1 = f5 m s i
 | 0, i => rfl
 | s + 1, i => by
  show (runs m s ((i * 5 + 1 + 0 / 32) % (m + 1)) (0 / 32)).1 = f5 m s ((i * 5 + 1) % (m + 1))
  rw [Nat.zero_div, Nat.add_zero]
  exact runs_f5 s _
theorem f5_add {m : Nat} : ∀ (a b i : Nat), f5 m (a + b) i = f5 m b (f5 m a i)
 | 0, b, i => by rw [Nat.zero_add]; rfl
 | a + 1, b, i => by rw [Nat.succ_add]; exact f5_add a b _
def bitsOf (m : Nat) : Nat -> Nat -> Nat -> Nat
 | 0, _, acc => acc
 | s + 1, i, acc => bitsOf m s ((i * 5 + 1) % (m + 1)) (acc ||| (2 ^ i))
theorem bitsOf_spec {m j : Nat} : ∀ (s i acc : Nat), (bitsOf m s i acc).testBit j = true -> acc.testBit j = true \/ ∃ a, a < s /\ f5 m a i = j
 | 0, i, acc, h => .inl h
 | s + 1, i, acc, h => by
  rcases bitsOf_spec s _ _ h with h | ⟨a, ha, e⟩
  ·rw [Nat.testBit_or, Bool.or_eq_true] at h
   rcases h with h | h
   ·exact .inl h
   ·rw [Nat.testBit_two_pow] at h
    exact .inr ⟨0, by omega, of_decide_eq_true h⟩
  ·exact .inr ⟨a + 1, by omega, e⟩
def Mask (m : Nat) : Prop := m = 7 \/ m = 31 \/ m = 127 \/ m = 511
theorem cover0 {m : Nat} (hm : Mask m) : f5 m (m + 1) 0 = 0 /\ ∀ j, j <= m -> ∃ a, a <= m /\ f5 m a 0 = j := by
 have key : f5 m (m + 1) 0 = 0 /\ bitsOf m (m + 1) 0 0 = 2 ^ (m + 1) - 1 := by
  rcases hm with rfl | rfl | rfl | rfl <;> constructor <;> decide +kernel
 refine ⟨key.1, fun j hj => ?_⟩
 have : (bitsOf m (m + 1) 0 0).testBit j = true := by
  rw [key.2, Nat.testBit_two_pow_sub_one]
  exact decide_eq_true (by omega)
 rcases bitsOf_spec _ _ _ this with h | ⟨a, ha, e⟩
 ·simp at h
 ·exact ⟨a, by omega, e⟩
theorem cover {m i j : Nat} (hm : Mask m) (hi : i <= m) (hj : j <= m) : ∃ s, s <= m /\ f5 m s i = j := by
 obtain ⟨z, all⟩ := cover0 hm
 obtain ⟨a, ha, rfl⟩ := all i hi
 obtain ⟨b, hb, rfl⟩ := all j hj
 by_cases c : a <= b
 ·exact ⟨b - a, by omega, by rw [<- f5_add]; congr 1; omega⟩
 ·refine ⟨b + (m + 1) - a, by omega, ?_⟩
  rw [<- f5_add, show a + (b + (m + 1) - a) = (m + 1) + b from by omega, f5_add, z]
theorem reach {m i u j : Nat} (hm : Mask m) (hi : i <= m) (hu : u < 2 ^ 64) (hj : j <= m) : ∃ r, r <= m + 13 /\ (runs m r i u).1 = j := by
 have p0 : (runs m 13 i u).2 = 0 := by
  rw [runs_perturb]
  exact Nat.div_eq_of_lt (zW hu (by decide))
 obtain ⟨s, hs, e⟩ := cover hm (runs_small 13 i u hi) hj
 refine ⟨13 + s, by omega, ?_⟩
 rw [runs_add, p0, runs_f5, e]
theorem least {P : Nat -> Prop} : ∀ n, P n -> ∃ k, k <= n /\ P k /\ ∀ i, i < k -> ¬ P i := by
 intro n
 induction n using Nat.strongRecOn with
 | _ n ih =>
  intro h
  by_cases c : ∃ i, i < n /\ P i
  ·obtain ⟨i, hi, pi⟩ := c
   obtain ⟨k, hk, pk, al⟩ := ih i hi pi
   exact ⟨k, by omega, pk, al⟩
  ·exact ⟨n, zG _, h, fun i hi pi => c ⟨i, hi, pi⟩⟩
end SmSet
set_option Elab.async false
set_option linter.all false
set_option maxRecDepth 100000
set_option maxHeartbeats 400000
namespace Sm
open PySem L2 SmSort
theorem lx2 {a b c d : Int} (h : lx [a, b] [c, d] = false) : c < a \/ (c = a /\ d <= b) := by
 by_cases e : a = c
 ·subst e
  by_cases e2 : b = d
  ·subst e2; exact .inr ⟨rfl, yY _⟩
  ·simp [lx, e2] at h
   exact .inr ⟨rfl, h⟩
 ·simp [lx, e] at h
  omega
end Sm
namespace L2
open PySem
end L2
namespace Sm
open PySem L2 SmSort
end Sm
namespace L2
open PySem
end L2
set_option Elab.async false
set_option linter.all false
set_option maxRecDepth 100000
set_option maxHeartbeats 400000
namespace L2
open PySem PySem.Spec PyProof.Rows
section
variable {K : PySem.W.Frag} {a : Addr} {xs : List V} {n : Nat} {caps : List Nat} {g : TG} {tc : TT} {te : TE} {σ : St} {H : Hp} {Qf : Addr -> Hp -> List V -> Prop}
end
end L2
namespace Sm
open PySem L2 SmSort
abbrev Mk := Nat -> Nat
end Sm
set_option Elab.async false
set_option linter.all false
set_option maxRecDepth 100000
set_option maxHeartbeats 400000
namespace Sm
open PySem L2 SmSort
structure L4 where
 s : Nat
 w : Nat
 a : Int
 z : Int
end Sm
namespace Sm
open PySem L2 SmSort
end Sm
set_option Elab.async false
set_option linter.all false
set_option maxRecDepth 100000
set_option maxHeartbeats 400000
namespace L2
open PySem PySem.Spec PyProof.Rows
section
variable {P : Program} {w : World} {H H' : Hp} {h : Heap} {a : Addr} {o : HO}
theorem ObjOk.has (x : ObjOk P w H h a o) : ∃ u, h.get? a = some u := by
 cases o with
 | lst xs => obtain ⟨_, _, _, _, e⟩ := x; exact ⟨_, e⟩
 | tup xs => obtain ⟨_, _, _, u, e, _⟩ := x; exact ⟨u, e⟩
 | dK kvs => obtain ⟨_, _, _, _, u, _, _, e, _⟩ := x; exact ⟨u, e⟩
 | dT kvs => obtain ⟨_, _, _, _, u, _, _, e, _⟩ := x; exact ⟨u, e⟩
 | set S n => obtain ⟨u, _, _, _, e, _⟩ := x; exact ⟨u, e⟩
 | ins C dx fs => obtain ⟨_, _, _, e, _⟩ := x; exact ⟨_, e⟩
 | own y => exact x
 | xd fs => obtain ⟨_, ⟨u, _, _, e, _⟩, _⟩ := x; exact ⟨u, e⟩
 | rng lo hi => obtain ⟨_, _, _, e⟩ := x; exact ⟨_, e⟩
 | frz ob u => obtain ⟨e, _⟩ := x; exact ⟨_, e⟩
 | tbl ps => exact ⟨_, (show h.get? a = some _ from x)⟩
 | met f y => exact ⟨_, (show h.get? a = some _ from x)⟩
 | ext φ => exact x.2.1
end
structure XL (P : Program) (w : World) (l : List Env) (H : Hp) (s : Shared) (H' : Hp) (B : Heap) (s' : Shared) : Prop where
 os : s'.os = s.os
 bare : AllBare s'.gens
 keepB : ∀ b o, s.heap.get? b = some o -> H b = none -> b ∉ frs l -> B.get? b = some o
 allB : ∀ b o, s.heap.get? b = some o -> b ∉ frs l -> ∃ o', B.get? b = some o'
 trkB : ∀ b u, H' b = some u -> ∃ o, B.get? b = some o
 frm : ∀ b o, s.heap.get? b = some o -> b ∈ frs l -> ∃ sl, s'.heap.get? b = some { o with slots := sl }
 free : ∀ b o, s.heap.get? b = some o -> H b = none -> H' b = none
 tups : ∀ b xs, H b = some (.tup xs) -> H' b = some (.tup xs)
 frzs : ∀ b o u, H b = some (.frz o u) -> H' b = some (.frz o u)
 tbls : ∀ b ps, H b = some (.tbl ps) -> ∃ more, H' b = some (.tbl (ps ++ more))
 hok : HOk P w H' s'.heap
 stays : B.StaysIn s'.heap
section
variable {P : Program} {w : World} {l : List Env} {H H' : Hp} {s s' : Shared} {B base : Heap}
theorem XL.un (x : XL P w l H s H' B s') : Un (frs l) [] H H' s.heap s'.heap where
 keep := fun b o e n hb _ => x.stays _ _ (x.keepB b o e n hb)
 slot := fun b o e n hb _ => x.frm b o e hb
 free := fun b o e n _ => x.free b o e n
 there := fun b o e _ => by
  by_cases hb : b ∈ frs l
  ·obtain ⟨sl, q⟩ := x.frm b o e hb; exact ⟨_, q⟩
  ·obtain ⟨o', q⟩ := x.allB b o e hb; exact ⟨o', x.stays _ _ q⟩
 tups := x.tups
 frzs := x.frzs
 tbls := x.tbls
theorem XL.step {h2 : Heap} (x : XL P w l H s H' B s') (ff : s.heap.FunFrames base l) (k : B.StaysIn h2) (u : s'.heap.UpToSlots h2) : XL P w l H s H' B { s' with heap := h2 } where
 os := x.os
 bare := x.bare
 keepB := x.keepB
 allB := x.allB
 trkB := x.trkB
 frm := fun b o e hb => by
  obtain ⟨sl, q⟩ := x.frm b o e hb
  obtain ⟨_, o1, e1, nf⟩ := ff.mem hb
  rw [e] at e1; cases e1
  obtain ⟨sl2, q2⟩ := u b _ q nf
  exact ⟨sl2, q2⟩
 free := x.free
 tups := x.tups
 frzs := x.frzs
 tbls := x.tbls
 hok := fun a o e => by
  have st : ∀ b v, H' b = some v -> ∀ ob, s'.heap.get? b = some ob -> h2.get? b = some ob := fun b v hv ob q => by
   obtain ⟨o1, e1⟩ := x.trkB b v hv
   have z := x.stays _ _ e1
   rw [q] at z; cases z
   exact k _ _ e1
  refine (x.hok a o e).stay (fun b v hb q => ?_) (fun _ q => q) fun _ _ q => q
  rcases hb with rfl | hb
  ·exact st _ _ e _ q
  ·exact st _ _ hb _ q
 stays := k
end
def TrD (h B : Heap) (e : Addr) (cls fl : Value) : Prop := ∃ oe vs T oT ts, h.get? e = some oe /\ oe.cls = cls /\ oe.dict = none /\ oe.data = .fields vs /\ vs[1]? = some (Value.ref T) /\ B.get? T = none /\ T ≠ e /\ h.get? T = some oT /\ oT.data = .fields ts /\ ts[3]? = some fl
def MdD (h : Heap) (e : Addr) (cls : Value) : Prop := ∃ oe vs, h.get? e = some oe /\ oe.cls = cls /\ oe.dict = none /\ oe.data = .fields vs /\ vs[1]? = some Value.none
def CXE (P : Program) (w : World) : CXT := fun l H s E e s' => ∃ a cls H' B, e = Value.ref a /\ XL P w l H s H' B s' /\ B.get? a = none /\ s'.heap.FunFrames B l /\ TrD s'.heap B a cls Value.none /\ E cls none H'
def FlyS (B : Heap) (env : Env) (outer : List Env) (a : Addr) (cls : Value) (h : Heap) : Prop :=
 B.get? a = none /\ h.FunFrames B (env :: outer) /\ (MdD h a cls \/ TrD h B a cls Value.none \/ ∃ L, env.frame = some L /\ TrD h B a cls (rawInt L))
def WX (X : Cx) (E : XK) : Value -> Shared -> Prop := fun e s' => (X.A.frames = some (X.env :: X.outer) /\ X.env.frame = some X.env.locals /\ X.s₀.heap.FunFrames X.base X.outer) /\ ∃ a cls H' B, e = Value.ref a /\ XL X.prog X.w X.outer X.H₀ X.s₀ H' B s' /\ FlyS B X.env X.outer a cls s'.heap /\ E cls none H'
abbrev Cx.exc (X : Cx) (E : XK) : Cx := X.wish (WX X E)
theorem rec_far {h B : Heap} {T : Addr} {oT : Obj} {ts : Array Value} (hT : h.get? T = some oT) (hdT : oT.data = .fields ts) : ∀ b o, h.get? b = some o -> (∀ vs, o.data ≠ .fields vs) -> b ≠ T := fun b o e nf z => by
 subst z; rw [hT] at e; cases e; exact nf _ hdT
theorem laid_entry {g B : Heap} {e : Addr} {oe : Obj} {vs ts : Array Value} {fl : Value} (he : g.get? e = some oe) (hdc : oe.dict = none) (hd : oe.data = .fields vs) (sz : 1 < vs.size) (kb : B.StaysIn g) (h3 : ts[3]? = some fl) :
  (∀ b o, b ≠ e -> g.get? b = some o -> ((g.push { cls := .type "traceback", dict := none, data := .fields ts }).update e (Obj.mapFields (·.setIfInBounds 1 (Value.ref g.objs.size)))).get? b = some o) /\
  TrD ((g.push { cls := .type "traceback", dict := none, data := .fields ts }).update e (Obj.mapFields (·.setIfInBounds 1 (Value.ref g.objs.size)))) B e oe.cls fl := by
 have he2 := Heap.get?_push_of_some (h := g) { cls := .type "traceback", dict := none, data := .fields ts } he
 have ne : g.objs.size ≠ e := fun z => absurd (Heap.lt_size he) (by rw [z]; exact zk _)
 have hd3 := Obj.data_mapFields hd (·.setIfInBounds 1 (Value.ref g.objs.size))
 refine ⟨fun b o nb eb => ?_, _, _, g.objs.size, { cls := .type "traceback", dict := none, data := .fields ts }, ts, Heap.get?_update_self _ he2 (Obj.isFreed_of_fields hd3), Obj.cls_mapFields _ _, ?_, hd3, by simp [sz], kb.fresh, ne, ?_, rfl, h3⟩
 ·rw [Heap.get?_update_other _ _ (Ne.symm nb)]; exact Heap.get?_push_of_some _ eb
 ·obtain ⟨c0, d0, dt0, sl0⟩ := oe
  cases dt0 <;> first | exact hdc | cases hd
 ·rw [Heap.get?_update_other _ _ (Ne.symm ne)]; exact Heap.get?_push_size g rfl
section
variable {M : Model} {A : Around} {Ex : Value -> Shared -> Prop} {s : Shared} {B : Heap} {env : Env} {outer : List Env} {a L : Addr} {cls : Value} {Q : Unit -> Shared -> Prop}
theorem entry_fly {oe : Obj} {vs : Array Value} {head : Value} {hn : Bool} (hfr : A.frames = some (env :: outer)) (hf : env.frame = some L) (hk : B.StaysIn s.heap) (hl : s.heap.FunFrames B (env :: outer)) (nb : B.get? a = none) (he : s.heap.get? a = some oe) (hdc : oe.dict = none) (hd : oe.data = .fields vs) (sz : 1 < vs.size)
  (q : ∀ h', B.StaysIn h' -> s.heap.UpToSlots h' -> h'.FunFrames B (env :: outer) -> TrD h' B a oe.cls (rawInt L) -> Q () { s with heap := h' }) :
  wpAny M A (do let v <- frameOf env; let pl <- entryPlaceOf L hn; let b <- EntryCells.newEntry head v .none (rawInt L) .none pl; setField (.ref a) 1 b) Q Ex s := by
 have nf : a ∉ (env :: outer).filterMap (·.frame) := fun hm => by
  obtain ⟨_, o, ho, z⟩ := hl.mem hm
  rw [he] at ho; cases ho; exact z vs hd
 refine wpAny_bind (wpAny_frameOf_fun hfr hl hf fun g sl => wpAny_bind (wpAny_entryPlaceOf fun pl ip => ?_))
 unfold EntryCells.newEntry newFields
 refine wpAny_bind (wpAny_newObj_type ?_ (ip.sizeOk5 _ _ _ _ _))
 have eg : g.get? a = some oe := (sl.2.1 a nf).trans he
 have kg : B.StaysIn g := fun b o e => (sl.2.1 b fun hm => by rw [(hl.mem hm).1] at e; cases e).trans (hk b o e)
 refine wpAny_setField (Heap.get?_push_of_some _ eg) hd sz ?_
 have y := laid_entry (B := B) (fl := rawInt L) (ts := ([head, Value.ref L, Value.none, rawInt L, Value.none] ++ (if pl.isEmpty then List.replicate 6 Value.none else pl)).toArray) eg hdc hd sz kg (by first | (simp; done) | (rcases ip with rfl | ⟨_, _, _, _, _, _, _, rfl⟩ <;> simp))
 have far := rec_far (B := B) he hd
 refine q _ (fun b o e => y.1 b o (fun z => by rw [z, nb] at e; cases e) (kg b o e)) (fun b o e nf => ?_) (hl.of_keeps fun b o e nf => ?_) y.2
 ·obtain ⟨s2, e2⟩ := sl.2.2 b o e
  exact ⟨s2, y.1 b _ (far b o e nf) e2⟩
 ·obtain ⟨s2, e2⟩ := sl.2.2 b o e
  exact ⟨_, y.1 b _ (far b o e nf) e2, rfl⟩
theorem set_entry {B : Heap} {h : Heap} {cls fl fl2 : Value} {oe oT : Obj} {vs ts : Array Value} {T : Addr} (he : h.get? a = some oe) (hc : oe.cls = cls) (hdc : oe.dict = none) (hd : oe.data = .fields vs) (h1 : vs[1]? = some (Value.ref T)) (hnT : B.get? T = none) (hTe : T ≠ a) (hT : h.get? T = some oT) (hdT : oT.data = .fields ts) (sz : 3 < ts.size) (hk : B.StaysIn h) (hl : h.FunFrames B (env :: outer)) :
  B.StaysIn (h.update T (Obj.mapFields (·.setIfInBounds 3 fl2))) /\ h.UpToSlots (h.update T (Obj.mapFields (·.setIfInBounds 3 fl2))) /\ (h.update T (Obj.mapFields (·.setIfInBounds 3 fl2))).FunFrames B (env :: outer) /\ TrD (h.update T (Obj.mapFields (·.setIfInBounds 3 fl2))) B a cls fl2 /\ (h.update T (Obj.mapFields (·.setIfInBounds 3 fl2))).get? a = some oe := by
 have far : ∀ b, b ≠ T -> (h.update T (Obj.mapFields (·.setIfInBounds 3 fl2))).get? b = h.get? b := fun b hb => Heap.get?_update_other _ _ (Ne.symm hb)
 have nrec := rec_far (B := B) hT hdT
 have ea := (far a (Ne.symm hTe)).trans he
 exact ⟨fun b o e => (far b (fun z => by subst z; rw [hnT] at e; cases e)).trans (hk _ _ e), fun b o e nf => ⟨o.slots, (far b (nrec b o e nf)).trans e⟩, hl.of_keeps fun b o e nf => ⟨o, (far b (nrec b o e nf)).trans e, rfl⟩,
  ⟨oe, vs, T, _, _, ea, hc, hdc, hd, h1, hnT, hTe, Heap.get?_update_self _ hT (Obj.isFreed_of_fields (Obj.data_mapFields hdT _)), Obj.data_mapFields hdT _, by simp [sz]⟩, ea⟩
theorem note_fly (hfr : A.frames = some (env :: outer)) (hf : env.frame = some L) (hk : B.StaysIn s.heap) (x : FlyS B env outer a cls s.heap)
  (q : ∀ h', B.StaysIn h' -> s.heap.UpToSlots h' -> h'.FunFrames B (env :: outer) -> TrD h' B a cls (rawInt L) -> Q () { s with heap := h' }) : wpAny M A (noteFrame (.ref a) env) Q Ex s := by
 obtain ⟨hn, hl, ⟨oe, vs, he, hc, hdc, hd, h1⟩ | ⟨oe, vs, T, oT, ts, he, hc, hdc, hd, h1, hnT, hTe, hT, hdT, h3⟩ | ⟨L', hL, ht⟩⟩ := x
 ·subst hc
  unfold noteFrame
  rw [hf]
  dsimp only
  refine wpAny_bind (wpAny_field (x := _) he hd h1 ?_)
  rw [if_neg (by decide)]
  exact entry_fly hfr hf hk hl hn he hdc hd (Array.getElem?_eq_some_iff.mp h1).1 q
 ·have sz : 3 < ts.size := (Array.getElem?_eq_some_iff.mp h3).1
  obtain ⟨k2, u2, l2, _, e2⟩ := set_entry (fl := Value.none) (fl2 := Value.none) he hc hdc hd h1 hnT hTe hT hdT sz hk hl
  unfold noteFrame
  rw [hf]
  dsimp only
  refine wpAny_bind (wpAny_field (x := _) he hd h1 ?_)
  rw [if_pos (by simp)]
  refine wpAny_bind (wpAny_field (x := _) hT hdT h3 ?_)
  rw [if_neg (by simp [rawInt])]
  refine wpAny_bind (wpAny_setField hT hdT sz ?_)
  subst hc
  exact entry_fly hfr hf k2 l2 hn e2 hdc hd (Array.getElem?_eq_some_iff.mp h1).1 fun h' y1 y2 y3 y4 => q h' y1 (u2.trans y2) y3 y4
 ·cases hL.symm.trans hf
  obtain ⟨oe, vs, T, oT, ts, he, hc, hdc, hd, h1, hnT, hTe, hT, hdT, h3⟩ := id ht
  unfold noteFrame
  rw [hf]
  dsimp only
  refine wpAny_bind (wpAny_field (x := _) he hd h1 ?_)
  rw [if_pos (by simp)]
  refine wpAny_bind (wpAny_field (x := _) hT hdT h3 ?_)
  rw [if_pos (by simp)]
  exact wpAny_pure (q s.heap hk (Heap.UpToSlots.refl _) hl ht)
theorem mark_fly {fl : Value} {fo : Option Addr} (hk : B.StaysIn s.heap) (hl : s.heap.FunFrames B (env :: outer)) (ht : TrD s.heap B a cls fl)
  (q : ∀ h', B.StaysIn h' -> s.heap.UpToSlots h' -> h'.FunFrames B (env :: outer) -> TrD h' B a cls (fo.elim Value.none fun f => rawInt f) -> Q () { s with heap := h' }) : wpAny M A (setFlight (.ref a) fo) Q Ex s := by
 obtain ⟨oe, vs, T, oT, ts, he, hc, hdc, hd, h1, hnT, hTe, hT, hdT, h3⟩ := ht
 have sz : 3 < ts.size := (Array.getElem?_eq_some_iff.mp h3).1
 obtain ⟨k2, u2, l2, t2, e2⟩ := set_entry (fl := fl) (fl2 := fo.elim Value.none fun f => rawInt f) he hc hdc hd h1 hnT hTe hT hdT sz hk hl
 unfold setFlight
 refine wpAny_bind (wpAny_field (x := _) he hd h1 ?_)
 rw [if_pos (by simp)]
 exact wpAny_setField hT hdT sz (q _ k2 u2 l2 t2)
end
section
variable {X : Cx} {E : XK}
theorem wx_leaves {P : Program} {w : World} {A : Around} {env : Env} {outer : List Env} {H : Hp} {s s' : Shared} {base : Heap} {L : Addr} {e : Value} {Ex : Value -> Shared -> Prop} (hst : A.frames = some (env :: outer)) (hf : env.frame = some L) (ff : s.heap.FunFrames base outer)
  (h : ∃ a cls H' B, e = Value.ref a /\ XL P w outer H s H' B s' /\ FlyS B env outer a cls s'.heap /\ E cls none H') : wpAny (model P w) A (leaving env e) (fun _ s'' => CXE P w outer H s E e s'') Ex s' := by
 obtain ⟨a, cls, H', B, rfl, x, y, q⟩ := h
 unfold leaving
 refine wpAny_bind (note_fly hst hf x.stays y fun h1 k1 u1 l1 t1 => ?_)
 refine mark_fly k1 l1 t1 fun h2 k2 u2 l2 t2 => ?_
 exact ⟨a, cls, H', B, rfl, (x.step ff k1 u1).step ff k2 u2, y.1, l2.2.2, t2, q⟩
theorem pass_on {E' : XK} (hs : X.stack = X.env :: X.outer) (hf : X.env.frame = some X.env.locals) (hex : X.ex = []) (hE : ∀ cls H', E' cls none H' -> E cls none H') : Passes (CXE X.prog X.w) (X.exc E) E' := by
  rintro pins σ H s e s' I0 ⟨a, cls, H', B, rfl, x, f2, f3, f4, q⟩
  have I := I0.unwish
  have nex : ∀ b, b ∉ X.ex := fun b hb => by rw [hex] at hb; cases hb
  have nst : ∀ b o, X.s₀.heap.get? b = some o -> b ∉ X.fs -> b ∉ frs X.stack := fun b o e nb hb => by
    rcases zR.mp (I.stkSub b hb) with z | z
    · subst z; exact absurd (zW (Heap.lt_size e) I.ok.above) (zk _)
    · exact nb z
  have inst : ∀ b, b ∈ X.fs -> b ∈ frs X.stack := fun b hb => by
    rw [hs]; unfold frs; rw [yP]
    split
    · exact hb
    · exact zh _ hb
  rw [show (X.exc E).stack = X.env :: X.outer from hs] at f3
  exact ⟨⟨by rw [<- hs]; exact I.ok.frames, hf, I.ok.funs⟩, a, cls, H', B, rfl,
    { os := x.os.trans I.os
      bare := x.bare
      keepB := fun b o e n hb => x.keepB b o (I.base.keep b o e n hb (nex b)) (I.base.free b o e n (nex b)) (nst b o e hb)
      allB := fun b o e hb => by
        obtain ⟨o1, e1⟩ := I.base.there b o e (nex b)
        exact x.allB b o1 e1 (nst b o e hb)
      trkB := x.trkB
      frm := fun b o e hb => by
        obtain ⟨sl, e1⟩ := I.base.slot b o e (I.ok.frf b hb) hb (nex b)
        obtain ⟨sl2, e2⟩ := x.frm b _ e1 (inst b hb)
        exact ⟨sl2, e2⟩
      free := fun b o e n => by
        obtain ⟨o1, e1⟩ := I.base.there b o e (nex b)
        exact x.free b o1 e1 (I.base.free b o e n (nex b))
      tups := fun b xs e => x.tups b xs (I.base.tups b xs e)
      frzs := fun b o u e => x.frzs b o u (I.base.frzs b o u e)
      tbls := fun b ps e => by
        obtain ⟨m1, e1⟩ := I.base.tbls b ps e
        obtain ⟨m2, e2⟩ := x.tbls b _ e1
        exact ⟨m1 ++ m2, by rw [e2, Array.append_assoc]⟩
      hok := x.hok
      stays := x.stays }, ⟨f2, f3, .inr (.inl f4)⟩, hE _ _ q⟩
theorem raise_wx {pins : List (Addr × Obj)} {σ : St} {H : Hp} {s : Shared} {h' : Heap} {e : Addr} {cls : Value} {args : List Value} (hs : X.stack = X.env :: X.outer) (hf : X.env.frame = some X.env.locals) (hex : X.ex = []) (I : Inv X pins σ H s) (hx : Heap.MadeExcOf s.heap h' e cls args) (q : E cls none H) : WX X E (.ref e) { s with heap := h' } := by
  have nex : ∀ b, b ∉ X.ex := fun b hb => by rw [hex] at hb; cases hb
  have nst : ∀ b o, X.s₀.heap.get? b = some o -> b ∉ X.fs -> b ∉ frs X.stack := fun b o e nb hb => by
    rcases zR.mp (I.stkSub b hb) with z | z
    · subst z; exact absurd (zW (Heap.lt_size e) I.ok.above) (zk _)
    · exact nb z
  obtain ⟨t, he, hnt, ht⟩ := hx.there
  have hin : ∀ env ∈ X.stack, ∀ b, env.frame = some b -> b ∈ frs X.stack := fun env hm b hb => yT.mpr ⟨env, hm, hb⟩
  have fr := (PySem.W.funFrames_hide I.stack hin).of_keeps (h' := h') fun b o e _ => ⟨o, hx.keeps b o e, rfl⟩
  rw [hs] at fr
  refine ⟨⟨by rw [<- hs]; exact I.ok.frames, hf, I.ok.funs⟩, e, cls, H, PySem.W.hideAll s.heap (frs X.stack), rfl,
    { os := I.os
      bare := I.bare
      keepB := fun b o e n hb => PySem.W.hideAll_get _ (I.base.keep b o e n hb (nex b)) (nst b o e hb)
      allB := fun b o e hb => by
        obtain ⟨o1, e1⟩ := I.base.there b o e (nex b)
        exact ⟨o1, PySem.W.hideAll_get _ e1 (nst b o e hb)⟩
      trkB := fun b u hu => by
        obtain ⟨o1, e1⟩ := (I.hok b u hu).has
        exact ⟨o1, PySem.W.hideAll_get _ e1 fun hb => by rw [I.stkFree b hb] at hu; cases hu⟩
      frm := fun b o e hb => by
        obtain ⟨sl, e1⟩ := I.base.slot b o e (I.ok.frf b hb) hb (nex b)
        exact ⟨sl, hx.keeps _ _ e1⟩
      free := fun b o e n => I.base.free b o e n (nex b)
      tups := I.base.tups
      frzs := I.base.frzs
      tbls := I.base.tbls
      hok := I.hok.kept hx.keeps
      stays := fun b o e => hx.keeps _ _ (PySem.W.of_hideAll _ e) }, ⟨?_, by rw [<- hs]; rw [hs]; exact fr, .inl ⟨_, _, he, rfl, rfl, rfl, rfl⟩⟩, q⟩
  cases z : (PySem.W.hideAll s.heap (frs X.stack)).get? e with
  | none => rfl
  | some o => have := PySem.W.of_hideAll _ z; rw [hx.new] at this; cases this
end
end L2
set_option Elab.async false
set_option linter.all false
set_option maxRecDepth 100000
set_option maxHeartbeats 400000
namespace L2
open PySem PySem.Spec PyProof.Rows
abbrev veB : List Value := [.type "ValueError", .type "Exception", .type "BaseException", .type "object"]
def xclsB (K : PySem.W.Frag) (C : Addr) : Bool :=
 PySem.W.excIn K C veB "ValueError.__new__" && (zP K (.ref C) "__getattribute__" == some (some (.builtin "BaseException.__getattribute__"))) && (zP K (.ref C) "__getattr__" == some none) &&
 (zP K (.ref C) "__class__" == some (some (.builtin "object.__class__"))) && (yk K C (.type "object") == some true) && (yk K C (.type "BaseException") == some true) && (PySem.W.clsIn K C).isSome &&
 (PySem.W.specialIn K (.builtin "object.__class__") "__get__" == some (some (.builtin "getset_descriptor.__get__"))) && (PySem.W.takesIn K (.builtin "object.__class__") == some true)
structure XCls (K : PySem.W.Frag) (C : Addr) : Prop where
 exc : PySem.W.excIn K C veB "ValueError.__new__" = true
 ga : zP K (.ref C) "__getattribute__" = some (some (.builtin "BaseException.__getattribute__"))
 gn : zP K (.ref C) "__getattr__" = some none
 cl : zP K (.ref C) "__class__" = some (some (.builtin "object.__class__"))
 ob : yk K C (.type "object") = some true
 bx : yk K C (.type "BaseException") = some true
 ic : (PySem.W.clsIn K C).isSome = true
 sp : PySem.W.specialIn K (.builtin "object.__class__") "__get__" = some (some (.builtin "getset_descriptor.__get__"))
 tk : PySem.W.takesIn K (.builtin "object.__class__") = some true
theorem XCls.of {K : PySem.W.Frag} {C : Addr} (h : xclsB K C = true) : XCls K C := by
 simp only [xclsB, zr, beq_iff_eq] at h
 obtain ⟨⟨⟨⟨⟨⟨⟨⟨h1, h2⟩, h3⟩, h4⟩, h5⟩, h6⟩, h7⟩, h8⟩, h9⟩ := h
 exact ⟨h1, h2, h3, h4, h5, h6, h7, h8, h9⟩
theorem XCls.find {K : PySem.W.Frag} {C : Addr} (c : XCls K C) : PySem.W.findObj K C none "__class__" = some (.bind (.builtin "getset_descriptor.__get__") (.builtin "object.__class__")) := by
 obtain ⟨cd, e⟩ := zx.mp c.ic
 unfold PySem.W.findObj
 rw [e, Option.bind_some, c.cl, Option.bind_some]
 simp [c.sp, c.tk]
section
open PySem.W
variable {prog : Program} {w : World} {A : Around} {E : Value -> Shared -> Prop} {s : Shared} {K : PySem.W.Frag} {x C : Addr} {ox : Obj} {Q : Option Value -> Shared -> Prop}
theorem exc_class (X : K.In s.heap) (I : PySem.W.InstAt s.heap x ox C none) (c : XCls K C) (h : Q (some (.ref C)) { s with toks := s.toks + 1 }) : wpAny (model prog w) A (getAttr? (.ref x) "__class__") Q E s := by
 obtain ⟨hh, g, d, t, os⟩ := s
 have M0 := I.type (M := model prog w)
 have M1 := looks_findIn (M := model prog w) X c.ga
 have M2 := looks_findIn (M := model prog w) X c.gn
 have M3 := looks_find (M := model prog w) X I c.find
 have M4 := looks_mroIn (M := model prog w) X c.bx
 have ne : (Value.builtin "BaseException.__getattribute__" == Value.builtin "object.__getattribute__") = false := by decide +kernel
 unfold getAttr? getAttrBy? getAttrBy
 refine wpAny_bind (wpAny_mkText (wpAny_bind (wpAny_attempt (wpAny_holding (wpAny_bind (M0.at (wpAny_bind (M1.at ?_))))))))
 dsimp only
 rw [if_neg (by rw [ne, Bool.and_false]; exact zJ)]
 unfold getAttrByItsOwn hookBefore
 refine wpAny_bind (M2.at (wpAny_bind (wpAny_attempt (wpAny_holding ?_))))
 unfold callGetattribute
 rw [if_neg (by simp [onTheHeap])]
 unfold boundAndCalled
 refine wpAny_bind (wpAny_of_eq (PySem.F.excAttr_ValueError.ga.bind (.ref x)) ?_)
 refine wpAny_call (codeAny_call_builtin PySem.F.excAttr_ValueError.ga.plain PySem.F.entry_bexc_ga ?_)
 have kd : builtinKind "BaseException.__getattribute__" = some .slot := by decide +kernel
 have sp : splitId "BaseException.__getattribute__" = some ("BaseException", "__getattribute__") := by decide +kernel
 have ao := PySem.F.args_bexc_ga (.ref x) (.str "__class__" t)
 have LI : Looks (model prog w) hh (isInstance (.ref x) (.type "BaseException")) true := M0.andThen M4
 simp only [checkBuiltinCall, kd, sp]
 refine wpAny_bind (LI.at ?_)
 rw [if_neg (by decide)]
 refine wpAny_of_eq (a := ()) ao ?_
 unfold Builtin.«object.__getattribute__»
 repeat (first | refine wpAny_bind (M0.at ?_) | refine wpAny_bind (M3.at ?_) | wp_step)
 refine class_get (ox := ox) (od := none) X I c.ob ?_
 exact wpAny_pure (wpAny_pure (wpAny_pure h))
theorem kitx_exc (c : XCls K C) : KitX K (.ref x) (.ref C) (fun h => ∃ ox, PySem.W.InstAt h x ox C none) where
 ty := fun _ _ _ ⟨_, I⟩ => I.type
 it := fun _ _ X _ => by
  have q := c.ic
  unfold clsIn at q
  split at q
  ·rename_i lk
   intro A' Q' E' s' kp qq
   unfold isType loadHead
   exact wpAny_bind (wpAny_loadPart (kp _ _ (X _ _ lk)) (wpAny_pure qq))
  ·cases q
 ne := fun h tp dd its n sl X ht => by
  have q := c.ic
  unfold clsIn at q
  split at q
  ·rename_i lk
   refine Bool.eq_false_iff.mpr fun z => ?_
   obtain rfl : C = tp := Value.ref.inj (beq_iff_eq.mp z)
   cases (X _ _ lk).symm.trans ht
  ·cases q
 ca := fun X ⟨_, I⟩ k => exc_class X I c k
end
def excO (x C : Addr) : HO := .ext fun h => ∃ ox, PySem.W.InstAt h x ox C none
def vv : V -> Value
 | .ref a => .ref a
 | .ty n => .type n
 | _ => .none
def isCls : V -> Bool
 | .ref _ => true
 | .ty _ => true
 | _ => false
theorem vv_of {x : V} {u : Value} (h : isCls x = true) (r : RelV x u) : u = vv x := by
 cases x <;> first | exact r | cases h
theorem vv_all : ∀ {xs : List V} {us : List Value}, xs.all isCls = true -> Vals xs us -> us = xs.map vv
 | [], _, _, .nil => rfl
 | x :: xs, _, h, .cons r t => by
  rw [List.all_cons, zr] at h
  rw [zc, vv_of h.1 r, vv_all h.2 t]
section
variable {X : Cx} {K : PySem.W.Frag}
theorem Inv.excAt {pins : List (Addr × Obj)} {σ : St} {H : Hp} {s : Shared} {a C : Addr} (I : Inv X pins σ H s) (h : H a = some (excO a C)) : ∃ ox, PySem.W.InstAt s.heap a ox C none := (I.hok a _ h).1
theorem wE (hK : X.K = K) : CallR X (.builtin "isinstance") (fun xs H Q => ∃ a C c b, xs = [.ref a, c] /\ H a = some (excO a C) /\ XCls K C /\ isCls c = true /\ yQ K (.ref C) (vv c) = some b /\ Q (.bl b) H) := by
 subst hK
 intro pins s σ H xs us Q I r h
 obtain ⟨a, C, c, b, rfl, ha, xc, hc, hk, q⟩ := h
 obtain ⟨u, w', rfl, r1, r2⟩ := vals2 r
 cases r1
 cases vv_of hc r2
 exact zi (kitx_exc xc) I.kIn (I.excAt ha) hk (by intro z; cases z) fun tk => ⟨.bl _, H, I.tok tk, rfl, q⟩
theorem call_isXT (hK : X.K = K) : CallR X (.builtin "isinstance") (fun xs H Q => ∃ a C tp cs b, xs = [.ref a, .ref tp] /\ H a = some (excO a C) /\ XCls K C /\ SqT K H tp cs /\ cs.all isCls = true /\ PySem.W.kitAny K (.ref C) (cs.map vv) = some b /\ Q (.bl b) H) := by
 subst hK
 intro pins s σ H xs us Q I r h
 obtain ⟨a, C, tp, cs, b, rfl, ha, xc, ht, hc, hk, q⟩ := h
 obtain ⟨u, w', rfl, r1, r2⟩ := vals2 r
 cases r1; cases r2
 obtain ⟨its, rv, ⟨o, ho, hoc, n, hod⟩, _⟩ := I.tuple ht
 cases vv_all hc rv
 obtain ⟨ocl, odc, odt, osl⟩ := o
 cases hoc; cases hod
 exact PySem.W.kia_tup (kitx_exc xc) I.kIn (I.excAt ha) ho hk (by intro z; cases z) fun tk => ⟨.bl _, H, I.tok tk, rfl, q⟩
end
theorem exc_of {K : PySem.W.Frag} {h : Heap} {C : Addr} {bmB : List Value} {ni : String} (X : K.In h) (q : PySem.W.excIn K C bmB ni = true) : ∃ bm N nm qn bs hd sn sub ab col dd k0 k1 k2 k3 k5 mN,
  h.get? C = some (excClassObj nm qn C N bs bm hd sn sub ab col dd k0 k1 k2 k3 k5 ni) /\ h.Ns N mN /\ mN "__init__" = none /\ OwnTail h bmB bm := by
 simp only [PySem.W.excIn] at q
 split at q
 case h_2 => cases q
 case h_1 d0 c0 z0 lk =>
  split at q
  case h_2 => cases q
  case h_1 C0 bm p0 p1 p2 p3 n0 p5 em es =>
   simp only [zr, beq_iff_eq, Bool.not_eq_true'] at q
   obtain ⟨⟨⟨⟨⟨e1, e2⟩, e3⟩, e4⟩, e5⟩, e6⟩ := q
   subst e1 e2
   have ez : z0 = #[p0, p1, p2, p3, some (.builtin n0), p5] := by rw [<- es]
   have kC := X _ _ lk
   rw [ez] at kC
   rcases c0 with ⟨nm, bs, mro, ns, qn, hd, sn, sub, ab, col, del⟩
   have em' : mro = .ref C0 :: bm := em
   have e3' : del = false := e3
   subst em' e3'
   exact ⟨bm, ns, nm, qn, bs, hd, sn, sub, ab, col, d0, p0, p1, p2, p3, p5, _, kC, .of_isNs (PySem.W.isNs_of_in X e5), PySem.W.nsMap_none_of_in X e5 e6, PySem.W.tail_of_in X e4⟩
section
variable {X : Cx} {E : XK}
theorem PS.nox {st : Stmt} {t : TS} (h : PS X.nox st t) : PS X st t := fun pins s σ H D I hw =>
 wpAny_mono (h pins s σ H D (I.wish _) hw) (fun _ _ q => q.unwish) fun _ _ z => False.elim z
def tRaise (E : XK) (C : Addr) : TS := fun _ _ H => E (.ref C) none H
theorem xv {x : Str} {C : Addr} {np cpos pos p1 : Pos} {t : Str} {j} (hs : X.stack = X.env :: X.outer) (hf : X.env.frame = some X.env.locals) (hex : X.ex = []) (hc : X.calm = true) (hg : Gl X x) (hm : X.mg x = some (.ref C)) (xc : XCls X.K C) (hdb : (x == ("__debug__" : Str)) = false := by decide)
  (he : starEach [Expr.Constant (.str t) j p1] X.env = [(false, eval (.Constant (.str t) j p1) X.env)] := by rfl) :
  PS (X.exc E) (.Raise (some (.Call (.Name x np) [.Constant (.str t) j p1] [] cpos)) none pos) (tRaise E C) := by
 intro pins s σ H D I0 h
 have I := I0.unwish
 obtain ⟨bm, N, nm, qn, bs, hd, sn, sub, ab, col, dd, k0, k1, k2, k3, k5, mN, kC, kN, kn, kt⟩ := exc_of I.kIn xc.exc
 refine wpAny_Raise_call_subT (env := X.env) (C := C) (nm := nm) (q := qn) (N := N) (bs := bs) (bm := bm) (hdct := hd) (sn := sn) (sub := sub) (ab := ab) (col := col) (dd := dd) (k0 := k0) (k1 := k1) (k2 := k2) (k3 := k3) (k5 := k5)
  PySem.F.excBase_ValueError (mN := mN) (kt.hasType PySem.F.excBase_ValueError.hasBase) (I.ok.hd hc) (by rw [he]; rfl) kn (ld_glob I0 hg hm ⟨rfl, ?_⟩ hdb)
 rw [he]
 refine Calls.evalArgs_plain (Calls.spliced_cons (Calls.Constant_str (pos := p1) (k := j) (Calls.spliced_nil ?_)))
 refine ⟨rfl, by show 1 <= sizeLine; decide, kC, kN, kt, fun h' e me => ?_⟩
 exact raise_wx (s := { s with toks := s.toks + 1 }) hs hf hex (I.tok _) me h
end
section
variable {P : Program} {w : World} {K : PySem.W.Frag} {mg : Str -> Option Value} {base : Heap}
theorem Fun.okE {x qual : Str} {st : Stmt} {f : Addr} {fd : FuncData} {N ps : List Str} {k : Nat} {sp : Sp} (F : Fun K x qual st f fd) (S : FnScope N ps (defScope st)) (len : ∀ vs H Q E, sp vs H Q E -> vs.length = ps.length)
  (hbody : ∀ (cdv : Value) (A : Around) (outer : List Env) (s : Shared) (H : Hp) (vs : List V) (Q : VK) (E : XK), Room k (A.deeper (envOfC qual (defScope st) s.heap.objs.size f cdv)) -> sp vs H Q E ->
   ∃ t, PSs ((cxOf (CXE P w) P w K mg base N qual (defScope st) f cdv A outer s H E).exc E) (defBody st) t /\ t { nx := fun _ H' => Q .non H', rt := Q } (start N vs) H) : FnOk P w K mg base (CXE P w) (k + 1) f fd ps sp := by
 obtain ⟨oc, od, kV, doc, pm, an, cdv, ct, osl, rfl, lk, hcd⟩ := F.ex
 refine fn_of lk hcd S len fun A outer s H vs Q E hr hsp => ?_
 obtain ⟨t, h, q⟩ := hbody cdv A outer s H vs Q E hr hsp
 refine ⟨t, fun pins s1 σ H1 D I hw => ?_, q⟩
 exact wpAny_mono (h pins s1 σ H1 D (I.wish _) hw) (fun _ _ z => z.unwish) fun e s2 z => wx_leaves (base := base) I.ok.frames rfl I.ok.funs z.2
end
end L2
set_option Elab.async false
set_option linter.all false
set_option maxRecDepth 100000
set_option maxHeartbeats 400000
namespace L2
open PySem PySem.Spec PyProof.Rows
section
variable {X : Cx} {pins : List (Addr × Obj)} {σ : St} {H : Hp} {s : Shared}
theorem gone_ok {M : Model} {A : Around} {Ex : Value -> Shared -> Prop} {i : Nat} {x : Str} {pos : Pos} {Q : Unit -> Shared -> Prop} (I : Inv X pins σ H s) (hN : X.N.Nodup) (hi : X.N[i]? = some x) (hk : X.env.kindOf x = some .local)
  (h : ∀ s', Inv X pins (σ.set i none) H s' -> Q () s') : wpAny M A (do bindName X.env x .none; unbindBehindTheSuite X.env x pos) Q Ex s := by
 obtain ⟨m, hn, hl⟩ := id I.loc
 have hcls : (X.env.scope.kind == .class || (X.env.scope.kind == .module && X.env.locals != X.env.globals)) = false := by rw [I.ok.kind]; rfl
 have cne := I.cne
 refine wpAny_nameGoes_keeps hk hn hcls fun h' v hn' hs => ?_
 obtain ⟨oL, _, _, hoL, _⟩ := id hn
 have far : ∀ b o, X.s₀.heap.get? b = some o -> b ≠ X.env.locals := fun b o e => zV (zW (Heap.lt_size e) I.ok.above)
 refine h _ ⟨I.ok, I.os, I.bare, ⟨fun b o e n hb hx => ?_, fun b o e n hb hx => ?_, I.base.free, fun b o e hx => ?_, I.base.tups, I.base.frzs, I.base.tbls⟩, ⟨_, hn', fun j y v' e1 e2 e3 => ?_⟩, fun y c e => ?_, I.free, I.freeC, fun p hp => ?_, fun b ob e => ?_, by simpa using I.len⟩
 ·exact (hs.2 b (far b o e)).trans (I.base.keep b o e n hb hx)
 ·obtain ⟨sl, e1⟩ := I.base.slot b o e n hb hx
  exact ⟨sl, (hs.2 b (far b o e)).trans e1⟩
 ·obtain ⟨o', e1⟩ := I.base.there b o e hx
  exact ⟨o', (hs.2 b (far b o e)).trans e1⟩
 ·by_cases hj : j = i
  ·subst hj
   have hj' : j < σ.length := by
    by_cases z : j < σ.length
    ·exact z
    ·rw [List.getElem?_eq_none (by rw [zj]; omega)] at e2; cases e2
   rw [List.getElem?_set_self hj'] at e2; cases e2
  ·rw [List.getElem?_set_ne (Ne.symm hj)] at e2
   obtain ⟨u', r', q⟩ := hl j y v' e1 e2 e3
   refine ⟨u', r', ?_⟩
   rcases q with ⟨k, e⟩ | ⟨k, c, e, z⟩
   ·refine .inl ⟨k, ?_⟩
    have : y ≠ x := fun e => hj (nodup_ix hN e1 (e ▸ hi))
    simp [this, e]
   ·exact .inr ⟨k, c, e, z.sameBut hs (cne y c e)⟩
 ·obtain ⟨w', z⟩ := I.cell y c e
  exact ⟨w', z.sameBut hs (cne y c e)⟩
 ·obtain ⟨e, n, ne, nf, d⟩ := I.pin p hp
  exact ⟨(hs.2 p.1 ne).trans e, n, ne, nf, d⟩
 ·have hfree := I.free
  refine (I.hok b ob e).stay (fun c w' hc q => (hs.2 c ?_).trans q) (fun _ q => q) fun _ _ q => q
  rintro rfl
  rcases hc with rfl | hc
  ·rw [hfree] at e; cases e
  ·rw [hfree] at hc; cases hc
end
def Cx.hand (X : Cx) (e : Addr) : Cx := { X with A := X.A.mark (some (.ref e)), calm := false, xe := fun _ _ => False }
section
variable {X : Cx} {pins : List (Addr × Obj)} {σ : St} {H : Hp} {s : Shared} {e : Addr}
theorem Inv.hand (I : Inv X pins σ H s) (e : Addr) : Inv (X.hand e) pins σ H s :=
 ⟨⟨I.ok.mod, I.ok.kind, I.ok.glob, I.ok.blt, I.ok.above, I.ok.inj, I.ok.has, I.ok.cab, (fun z => by cases z), I.ok.frames, I.ok.stk, I.ok.exf, I.ok.bs, I.ok.bsz, I.ok.noex, I.ok.exfs, I.ok.funs, I.ok.frf⟩, I.os, I.bare, I.base, I.loc, I.cell, I.free, I.freeC, I.pin, I.hok, I.len⟩
theorem Inv.unhand (ok : X.Ok) (I : Inv (X.hand e) pins σ H s) : Inv X pins σ H s := ⟨ok, I.os, I.bare, I.base, I.loc, I.cell, I.free, I.freeC, I.pin, I.hok, I.len⟩
end
def PSx (X : Cx) (st : List Stmt) (t : XK -> TS) : Prop := ∀ (pins : List (Addr × Obj)) (s : Shared) (σ : St) (H : Hp) (D : Ends) (Eh : XK) (Z : Value -> Shared -> Prop), Inv X pins σ H s -> t Eh D σ H ->
 (∀ H1 s1 e s', Inv X pins σ H1 s1 -> CXE X.prog X.w X.stack H1 s1 Eh e s' -> Z e s') -> wpAny (model X.prog X.w) X.A (execs st X.env) (SP X pins D) Z s
section
variable {X : Cx} {k : Nat} {f : Addr} {fd : FuncData} {ps : List Str} {sp : Sp} {dvs : List V} {ds : List Value} {x : Str} {p pos cpos : Pos} {e : Expr} {es : List Expr} {t : TA}
theorem run_fnX {pins : List (Addr × Obj)} {σ : St} {H : Hp} {s : Shared} {Q : VK} {us : List Value} {vs : List V} {Eh : XK} {Z : Value -> Shared -> Prop} (F : FnOk X.prog X.w X.K X.mg X.base (CXE X.prog X.w) k f fd ps sp) (hr : Room k X.A) (hb : Binds X.K fd ps ds) (hd : Vals dvs ds)
  (hx : ∀ e s', CXE X.prog X.w X.stack H s Eh e s' -> Z e s') (I : Inv X pins σ H s) (r : Vals vs us) (h : sp (vs ++ dvs) H Q Eh) : wpAny (model X.prog X.w) X.A (call (.ref f) us) (EP X pins σ Q) Z s := by
 have r2 : Vals (vs ++ dvs) (us ++ ds) := r.append hd
 have hl : (us ++ ds).length = ps.length := by rw [<- r2.length]; exact F.len _ _ _ _ h
 refine wpAny_call (codeAny_mono (F.run X.A X.stack s H ⟨us, []⟩ (us ++ ds) (vs ++ dvs) Q Eh hr I.env0 (hb s us I.kIn hl) r2 h) fun r s' hq => ?_)
 cases r with
 | error e => exact hx e s' hq
 | ok fl =>
  cases fl with
  | ret u => exact I.after hq
  | next => exact False.elim hq
  | brk => exact False.elim hq
  | cont => exact False.elim hq
end
def tTry (K : PySem.W.Frag) (cy : Value) (i : Nat) (tb : XK -> TS) (th : TS) : TS := fun D σ H =>
 tb (fun cls _ H' => PySem.W.exmOne K cls cy = some true /\ ∃ C, cls = Value.ref C /\ ∀ x, H' x = none ->
  th { nx := fun σ' H2 => D.nx (σ'.set i none) H2, rt := D.rt, bk := fun σ' H2 => D.bk (σ'.set i none) H2, ct := fun σ' H2 => D.ct (σ'.set i none) H2 } (σ.set i (some (.ref x))) (upd H' x (excO x C))) D σ H
section
variable {X : Cx} {K : PySem.W.Frag}
theorem ps_tryAs {body : List Stmt} {tb : XK -> TS} {b₀ : Stmt} {suite : List Stmt} {y n : Str} {np hpos pos : Pos} {th : TS} {i : Nat} {cy : Value} (hK : X.K = K) (hb : PSx X body tb) (hs : X.stack = X.env :: X.outer) (hf : X.env.frame = some X.env.locals)
    (hg : Gl X y) (hm : X.mg y = some cy) (hN : X.N.Nodup) (hi : X.N[i]? = some n) (hl : X.env.kindOf n = some .local) (hh : ∀ e, PSs (X.hand e) (b₀ :: suite) th) (hdb : (y == ("__debug__" : Str)) = false := by decide) :
    PS X (.Try body [.ExceptHandler (some (.Name y np)) (some n) (b₀ :: suite) hpos] [] [] pos) (tTry K cy i tb th) := by
  subst hK
  intro pins s σ H D I h
  refine wpAny_Try_except (thn (hb pins s σ H D _ _ I h ?_) fun f s1 q => ?_)
  · intro H1 s1 e s' I1 ⟨a, cls, H', B, ee, x, nb, ff, ht, em, C, ec, q⟩
    subst ee ec
    have fr : X.A.frames = some (X.env :: X.outer) := by rw [<- hs]; exact I1.ok.frames
    have ff1 := I1.stack
    rw [hs] at ff
    refine note_fly (cls := .ref C) fr hf x.stays ⟨nb, ff, .inr (.inl ht)⟩ fun h2 k2 u2 l2 t2 => ?_
    refine mark_fly (fo := none) k2 l2 t2 fun h3 k3 u3 l3 t3 => ?_
    have x3 := (x.step ff1 k2 u2).step ff1 k3 u3
    have J3 : Inv X pins σ H' { s' with heap := h3 } := I1.call' (ch := []) x3.os x3.un x3.hok x3.bare (fun b z => absurd z (by simp))
    obtain ⟨oe, vs, T, oT, ts, he, hc, _⟩ := id t3
    refine wpAny_handleBy_cons (codeAny_handlers_test (ld_glob (X := X.hand a) (J3.hand a) hg hm ?_ hdb)) (by intro z; cases z)
    have LT : PySem.W.Looks (model X.prog X.w) h3 (typeOf (.ref a)) (.ref C) := hc ▸ (PySem.W.Looks.ld he).andThen .now
    refine (PySem.W.exm_one J3.kIn LT em).here ?_
    refine codeAny_handlers_suite_as (mark_fly (fo := none) k3 l3 t3 fun h4 k4 u4 l4 t4 => ?_)
    have x4 := x3.step ff1 k4 u4
    obtain ⟨oe4, vs4, T4, oT4, ts4, he4, hc4, hdc4, hd4, _⟩ := id t4
    have na : H' a = none := by
      cases z : H' a with
      | none => rfl
      | some u => obtain ⟨o, eo⟩ := x4.trkB a u z; rw [nb] at eo; cases eo
    have nfr : a ∉ frs X.stack := fun hm => by
      rw [hs] at hm
      obtain ⟨_, o, eo, nf⟩ := l4.mem hm
      rw [he4] at eo; cases eo; exact nf _ hd4
    have un4 : Un (frs X.stack) [] H1 (upd H' a (excO a C)) s1.heap h4 :=
      { keep := x4.un.keep
        slot := x4.un.slot
        free := fun b o e n hx => by
          have nea : b ≠ a := fun z => by
            subst z
            obtain ⟨o', eo⟩ := x4.allB b o e nfr
            rw [nb] at eo; cases eo
          rw [yy nea]; exact x4.un.free b o e n hx
        there := x4.un.there
        tups := fun b xs e => by have e2 := x4.tups b xs e; rw [yy (yr e2 na)]; exact e2
        frzs := fun b o u e => by have e2 := x4.frzs b o u e; rw [yy (yr e2 na)]; exact e2
        tbls := fun b ps e => by obtain ⟨m, e2⟩ := x4.tbls b ps e; exact ⟨m, by rw [yy (yr e2 na)]; exact e2⟩ }
    have hok4 : HOk X.prog X.w (upd H' a (excO a C)) h4 := fun b u e => by
      by_cases z : b = a
      · subst z
        rw [yn] at e; cases e
        have mk : ∀ h : Heap, h.get? b = some oe4 -> ∃ ox, PySem.W.InstAt h b ox C none := fun h eh => by
          obtain ⟨c0, d0, dt0, sl0⟩ := oe4
          cases hdc4; cases hd4
          exact ⟨_, eh, hc4, rfl, trivial⟩
        refine ⟨mk h4 he4, ⟨_, he4⟩, fun g1 g2 ⟨ox, i1⟩ kk => ⟨ox, kk _ i1.at_, i1.cls, i1.no, ?_⟩⟩
        have := i1.dict
        cases zz : ox.dict with
        | none => trivial
        | some d0 => rw [zz] at this; exact this.elim
      · rw [yy z] at e
        exact (x4.hok b u e).stay (fun _ _ _ q => q) (fun c q => by rw [yy (yr q na)]; exact q) fun c xs q => by rw [yy (yr q na)]; exact q
    have J4 : Inv X pins σ (upd H' a (excO a C)) { s' with heap := h4 } := I1.call' (ch := []) x4.os un4 hok4 x4.bare (fun b z => absurd z (by simp))
    refine store_ok (X := X.hand a) (J4.hand a) hN hi (.inl hl) (v := .ref a) rfl (fun s5 I5 => ?_) (.inr hl)
    refine wpAny_mono (hh a pins s5 _ _ _ I5 (q a na)) (fun f s6 z => ?_) fun _ _ z => z.elim
    cases f with
    | next => obtain ⟨σ', H2, I6, q6⟩ := z; exact gone_ok (I6.unhand I.ok) hN hi hl fun s7 I7 => ⟨_, H2, I7, q6⟩
    | brk => obtain ⟨σ', H2, I6, q6⟩ := z; exact gone_ok (I6.unhand I.ok) hN hi hl fun s7 I7 => ⟨_, H2, I7, q6⟩
    | cont => obtain ⟨σ', H2, I6, q6⟩ := z; exact gone_ok (I6.unhand I.ok) hN hi hl fun s7 I7 => ⟨_, H2, I7, q6⟩
    | ret u => obtain ⟨v, σ', H2, I6, r6, q6⟩ := z; exact gone_ok (I6.unhand I.ok) hN hi hl fun s7 I7 => ⟨v, _, H2, I7, r6, q6⟩
  · cases f with
    | next => exact wpAny_execs_nil q
    | brk => exact q
    | cont => exact q
    | ret u => exact q
end
end L2
namespace L2
open PySem PySem.Spec PyProof.Rows
section
variable {X : Cx} {K : PySem.W.Frag} {e o : Expr} {es : List Expr} {to : TE} {t : TA} {T id : String} {name : Str} {apos cpos : Pos} {r : V -> List V -> Hp -> VK -> Prop}
theorem pe_bmK (hK : X.K = K) (pa : PlainAttrs T) (slot : Slot T name id) (hty : typeOf (.builtin id) = pure (.type "method_descriptor")) (hm : MtR X id r) (ho : PE X o to) (ha : PA X (e :: es) t)
  (hbase : attributeBase o name X.env (eval o X.env) = eval o X.env := by rfl)
  (hfew : ((backTo cpos (starEach (e :: es) X.env)).all (fun x => !x.1) && (backToKw cpos (keywordEach [] X.env)).all (fun x => x.1.isSome)
   && decide ((e :: es).length + ([] : List Keyword).length + (if ([] : List Keyword).isEmpty then 0 else 1) < 30)) = true := by rfl)
  (hline : (apos.endLine == cpos.line) = true := by rfl) (hs : starEach (e :: es) X.env = (false, eval e X.env) :: starEach es X.env := by rfl) (hplain : (backTo cpos (starEach es X.env)).any (·.1) = false := by rfl) :
  PE X (.Call (.Attribute o name apos) (e :: es) [] cpos) (tBM K T r to t) := by
 subst hK
 exact pe_bm pa slot hty hm ho ha hbase hfew hline hs hplain
end
end L2
set_option Elab.async false
set_option linter.all false
set_option maxRecDepth 100000
set_option maxHeartbeats 400000
namespace L2
open PySem PySem.Spec PyProof.Rows
theorem collect_seq {prog : Program} {w : World} {A : Around} {E : Value -> Shared -> Prop} {s : Shared} {l : Addr} {o : Obj} {vs : List Value} {n : Nat} {Q : List Value -> Shared -> Prop} (ho : s.heap.get? l = some o) (hc : o.cls = .type "list" \/ o.cls = .type "tuple") (hd : o.data = .seq vs.toArray n)
  (h : Q vs { s with heap := (s.heap.push (seqObj "list" #[] 0)).update s.heap.objs.size (Obj.mapSeq (· ++ vs.toArray)) }) (hsz : vs.length <= sizeLine) : wpAny (model prog w) A (collect (.ref l)) Q E s := by
 have ho2 := Heap.get?_push_of_some (seqObj "list" #[] 0) ho
 unfold collect
 refine wpAny_bind (wpAny_runValue (codeAny_builtin entry_proto_collect' (wpAny_bind (wpAny_newList (wpAny_pure ⟨Code.quiet_builtin _ (by decide +kernel), codeAny_builtin entry_list_iadd' ?_⟩)))))
 show wpAny (model prog w) _ (Builtin.List.listExtendWith (.ref s.heap.objs.size) (.ref l) (.ref s.heap.objs.size)) _ _ { s with heap := s.heap.push (seqObj "list" #[] 0) }
 unfold Builtin.List.listExtendWith
 obtain ⟨T, h1, h2⟩ : ∃ T, o.cls = .type T /\ (Value.type T == Value.type "list" || Value.type T == Value.type "tuple") = true := by
  rcases hc with z | z
  ·exact ⟨_, z, by decide⟩
  ·exact ⟨_, z, by decide⟩
 refine wpAny_bind (wpAny_typeOf (T := T) ⟨o, ho2, h1⟩ ?_)
 rw [if_pos (by rw [Bool.or_assoc, h2, Bool.or_true])]
 refine wpAny_bind (listItems_at ho2 hd (wpAny_bind (listItems_at (xs := #[]) (n := 0) (Heap.get?_push_size _ rfl) rfl ?_)))
 rw [if_neg (by simp)]
 refine wpAny_bind (listUpdate_at (xs := #[]) (n := 0) (Heap.get?_push_size _ rfl) rfl ?_ (zb _) (by show (#[] ++ vs.toArray).size <= _; simp; omega))
 refine wpAny_pure ?_
 refine wpAny_bind (wpAny_load (get?_update_seq (Heap.get?_push_size _ rfl) _) ?_)
 show wpAny (model prog w) A (pure ((#[] : Array Value) ++ vs.toArray).toList) Q E _
 rw [Array.empty_append]
 exact wpAny_pure h
theorem sorted_seq {prog : Program} {w : World} {A : Around} {E : Value -> Shared -> Prop} {s : Shared} {l : Addr} {o : Obj} {vs : List Value} {n : Nat} {ns : List Int} {Q : Value -> Shared -> Prop} (ho : s.heap.get? l = some o) (hc : o.cls = .type "list" \/ o.cls = .type "tuple") (hd : o.data = .seq vs.toArray n) (hI : IntsAre vs ns) (h64 : vs.length < 64)
  (h : ∀ (out : Array Value) (ms : List Int), IntsAre out.toList ms -> ms.Perm ns -> ms.Pairwise (· <= ·) -> Q (.ref (s.heap.objs.size + 1)) { s with heap := sortedAll s.heap vs out }) : wpAny (model prog w) A (call (.builtin "sorted") [.ref l]) Q E s := by
 have line : 1002 <= sizeLine := by rw [sizeLine_eq]; decide
 refine Calls.call_function_entry kind_sorted plain_sorted entry_sorted (args_sorted1 (.ref l)) ?_
 unfold Builtin.«sorted»
 refine wpAny_bind (m := checkCount "sorted" 1 1 _) (wpAny_pure (wpAny_bind (collect_seq ho hc hd ?_ (by omega))))
 refine wpAny_bind (wpAny_newList ?_)
 have sz : ((s.heap.push (seqObj "list" #[] 0)).update s.heap.objs.size (Obj.mapSeq (· ++ vs.toArray))).objs.size = s.heap.objs.size + 1 := by rw [Heap.size_update, size_push']
 have hL : (((s.heap.push (seqObj "list" #[] 0)).update s.heap.objs.size (Obj.mapSeq (· ++ vs.toArray))).push (seqObj "list" vs.toArray 0)).get? (s.heap.objs.size + 1) = some (seqObj "list" vs.toArray 0) := by
  rw [<- sz]; exact Heap.get?_push_size _ rfl
 dsimp only
 rw [sz]
 refine wpAny_bind (wpAny_holding (wpAny_call_entry slot_list_sort ⟨_, hL, rfl⟩ entry_list_sort (list_sort_tree hL hI h64 fun out ms a1 a2 a3 => ⟨_, rfl, ?_⟩) (args_list_sort _)))
 exact wpAny_pure ⟨_, rfl, h out ms a1 a2 a3⟩
theorem call_sortI {X : Cx} {K : PySem.W.Frag} (hK : X.K = K) : CallR X (.builtin "sorted") (fun xs H Q => ∃ p ns, xs = [.ref p] /\ (SqL K H p (List.map V.int ns) \/ SqT K H p (List.map V.int ns)) /\ ns.length < 64 /\ ∀ l ms, H l = none -> List.Perm ms ns -> ms.Pairwise (· <= ·) -> Q (.ref l) (upd H l (.lst (ms.map V.int)))) := by
 subst hK
 intro pins s σ H xs us Q I r h
 obtain ⟨p, ns, rfl, hq, h64, q⟩ := h
 obtain ⟨u, rfl, rx⟩ := vals1 r
 cases rx
 have line : 1002 <= sizeLine := by rw [sizeLine_eq]; decide
 have fin : ∀ (vs : List Value) (o : Obj) (n : Nat), Vals (ns.map V.int) vs -> s.heap.get? p = some o -> (o.cls = .type "list" \/ o.cls = .type "tuple") -> o.data = .seq vs.toArray n -> wpAny (model X.prog X.w) X.A (call (.builtin "sorted") [.ref p]) (EP X pins σ Q) X.xe s := fun vs o n rv ho hc hd => by
  have lv : vs.length = ns.length := by rw [<- rv.length, zA]
  refine sorted_seq ho hc hd (intsAre_of rv) (by omega) fun out ms hI pm pw => ?_
  have kp : ∀ b o, s.heap.get? b = some o -> (sortedAll s.heap vs out).get? b = some o := fun b o e => by
   have lb : b < s.heap.objs.size := Heap.lt_size e
   unfold sortedAll sortedHeap
   rw [Heap.get?_update_ne _ _ _ _ (zV (z6 lb))]
   refine Heap.get?_push_of_some _ (Heap.get?_push_of_some _ ?_)
   rw [Heap.get?_update_ne _ _ _ _ (zV (z6 lb))]
   refine Heap.get?_push_of_some _ ?_
   rw [Heap.get?_update_ne _ _ _ _ (zV lb)]
   exact Heap.get?_push_of_some _ e
  have sz : ((s.heap.push (seqObj "list" #[] 0)).update s.heap.objs.size (Obj.mapSeq (· ++ vs.toArray))).objs.size = s.heap.objs.size + 1 := by rw [Heap.size_update, size_push']
  obtain ⟨c, ec⟩ : ∃ c, (sortedAll s.heap vs out).get? (s.heap.objs.size + 1) = some (seqObj "list" out c) := by
   have e0 := Heap.get?_push_size ((s.heap.push (seqObj "list" #[] 0)).update s.heap.objs.size (Obj.mapSeq (· ++ vs.toArray))) (o := seqObj "list" vs.toArray 0) rfl
   rw [sz] at e0
   unfold sortedAll sortedHeap
   have e1 := get?_update_seq e0 (fun _ => (#[] : Array Value))
   exact ⟨_, get?_update_seq (Heap.get?_push_of_some _ (Heap.get?_push_of_some _ e1)) _⟩
  have lm : ms.length = ns.length := pm.length_eq
  have rv2 : Vals (ms.map V.int) out.toList := vals_ints hI
  refine ⟨.ref (s.heap.objs.size + 1), _, I.laid (t' := s.toks) kp (yM _) (show ObjOk X.prog X.w _ _ _ (.lst (ms.map V.int)) from ⟨by rw [zA]; omega, out.toList, c, rv2, by rw [Array.toArray_toList]; exact ec⟩), rfl, q _ ms (I.hok.fresh (yM _)) pm pw⟩
 rcases hq with hq | hq
 ·obtain ⟨its, rv, pl, _⟩ := I.list hq
  obtain ⟨o, ho, hc, n, hd⟩ := pl.isList
  exact fin its o n rv ho (.inl hc) hd
 ·obtain ⟨its, rv, ⟨o, ho, hc, n, hd⟩, _⟩ := I.tuple hq
  exact fin its o n rv ho (.inr hc) hd
end L2
namespace L2
open PySem PySem.Spec PyProof.Rows
section
variable {X : Cx}
end
end L2
namespace L2
open PySem PySem.Spec PyProof.Rows
section
variable {X : Cx} {K : PySem.W.Frag}
end
end L2
set_option Elab.async false
set_option linter.all false
set_option maxRecDepth 100000
set_option maxHeartbeats 400000
namespace Sm
open PySem L2 SmSort
theorem same_two {H : Hp} {x dx : Addr} {o1 o2 : HO} (nx : H x = none) (ndx : H dx = none) (ne : dx ≠ x) : Same H (upd (upd H dx o1) x o2) :=
 (yt ndx).trans (yt (by rw [yy (Ne.symm ne)]; exact nx))
theorem same_twice {H : Hp} {x : Addr} {o1 o2 : HO} (h : H x = none) : Same H (upd (upd H x o1) x o2) := fun b u e => by
 rw [yy (yr e h), yy (yr e h)]; exact e
end Sm
set_option Elab.async false
set_option linter.all false
set_option maxRecDepth 100000
set_option maxHeartbeats 400000
namespace L2
open PySem PySem.Spec PyProof.Rows PySem.W SmSort
def addT (H : Hp) : List (Addr × List V) -> Hp
 | [] => H
 | p :: r => upd (addT H r) p.1 (.tup p.2)
theorem addT_ne {H : Hp} {b : Addr} : ∀ {ps : List (Addr × List V)}, (∀ p ∈ ps, p.1 ≠ b) -> addT H ps b = H b
 | [], _ => rfl
 | p :: r, h => by
  show upd (addT H r) p.1 (.tup p.2) b = H b
  rw [yy (Ne.symm (h p (.head _)))]
  exact addT_ne fun q hq => h q (.tail _ hq)
theorem addT_at {H : Hp} : ∀ {ps : List (Addr × List V)}, (ps.map (·.1)).Nodup -> ∀ p ∈ ps, addT H ps p.1 = some (.tup p.2)
 | [], _, _, h => nomatch h
 | q :: r, nd, p, h => by
  rw [zc, yV] at nd
  show upd (addT H r) q.1 (.tup q.2) p.1 = _
  rcases zR.mp h with rfl | h
  ·exact yn
  ·rw [yy (fun e => nd.1 (by rw [<- e]; exact zQ.mpr ⟨p, h, rfl⟩))]
   exact addT_at nd.2 p h
theorem addT_same {H : Hp} {ps : List (Addr × List V)} (h : ∀ p ∈ ps, H p.1 = none) : Same H (addT H ps) := fun b u e => by
 rw [addT_ne fun p hp z => by have := h p hp; rw [z, e] at this; cases this]; exact e
section
variable {X : Cx} {pins : List (Addr × Obj)} {σ : St} {H : Hp} {s : Shared}
theorem Inv.tupsLaid {h' : Heap} {t' : Nat} {ps : List (Addr × List V)} (I : Inv X pins σ H s) (k : ∀ b o, s.heap.get? b = some o -> h'.get? b = some o) (hp : ∀ p ∈ ps, s.heap.objs.size <= p.1) (nd : (ps.map (·.1)).Nodup)
  (ok : ∀ p ∈ ps, p.2.length <= sizeLine /\ ∃ its : List Value, Vals p.2 its /\ IsTup h' p.1 its.toArray) : Inv X pins σ (addT H ps) { s with heap := h', toks := t' } := by
 have hn : ∀ p ∈ ps, H p.1 = none := fun p h => I.hok.fresh (hp p h)
 have ne : ∀ b u, H b = some u -> ∀ p ∈ ps, p.1 ≠ b := fun b u e p h z => by have := hn p h; rw [z, e] at this; cases this
 have old : ∀ b u, H b = some u -> addT H ps b = some u := fun b u e => by rw [addT_ne (ne b u e)]; exact e
 refine I.un ⟨fun b o e _ _ _ => k b o e, fun b o e _ _ _ => ⟨o.slots, k b o e⟩, fun b o e n _ => ?_, fun b o e _ => ⟨o, k b o e⟩, fun b xs e => old b _ e, fun b o u e => old b _ e, fun b qs e => ⟨#[], by rw [old b _ e]; simp⟩⟩ fun b u e => ?_
 ·rw [addT_ne (b := b) fun p h z => absurd (Heap.lt_size e) (Nat.not_lt.mpr (by rw [<- z]; exact hp p h))]; exact n
 ·by_cases c : ∃ p ∈ ps, p.1 = b
  ·obtain ⟨p, h, rfl⟩ := c
   rw [addT_at nd p h] at e; cases e
   obtain ⟨z, its, r, t⟩ := ok p h
   exact ⟨z, its, r, t⟩
  ·have e' := e
   rw [addT_ne fun p h z => c ⟨p, h, z⟩] at e'
   exact (I.hok b u e').stay (fun c v _ q => k c v q) (fun c q => old c _ q) fun c xs q => old c _ q
theorem Inv.newsIn {m : Str -> Option Value} {h' : Heap} {D : Addr} {its : List Value} {c : Nat} {xs ys : List V} (I : Inv X pins σ H s) (F0 : Fr X.base X.env.locals s.heap m) (F : Fr X.base X.env.locals h' m) (hD : H D = some (.lst ys))
  (N : News X.base X.env.locals h' ((D, listOf its.toArray c) :: rest X.base s.heap X.env.locals D)) (hv : Vals xs its) (hz : xs.length <= sizeLine) : Inv X pins σ (upd H D (.lst xs)) { s with heap := h' } := by
 have eD := (N (D, listOf its.toArray c) (.head _)).1
 have keep := kept_of_news (h := s.heap) (d := D) I.bk F (fun p hp => N p (.tail _ hp))
 have neD : ∀ b, H b = none -> b ≠ D := fun b n z => by rw [z, hD] at n; cases n
 have neL : ∀ b u, H b = some u -> b ≠ X.env.locals := fun b u e z => by rw [z, I.free] at e; cases e
 refine I.step (g' := s.gens) (t' := s.toks) (d' := s.drawn) (ch := []) (fun _ z => nomatch z) (fun b o hb _ _ e n => keep b o hb (neD b n) e) (fun b o hb _ _ e n => ⟨o.slots, keep b o hb (neD b n) e⟩) (fun b o _ e n => by rw [yy (neD b n)]; exact n) (fun b o _ e => ?_)
  (fun b ys e => by rw [yy (xU e hD (by intro z; cases z))]; exact e) (fun b o u e => by rw [yy (xU e hD (by intro z; cases z))]; exact e) (fun b ps e => ⟨#[], by rw [yy (xU e hD (by intro z; cases z)), e, Array.append_empty]⟩) (fun m' hm => ?_) (fun b u e => ?_) I.bare
 ·by_cases hb : b = X.env.locals
  ·obtain ⟨o', _, _, q, _⟩ := F.ns
   exact ⟨o', by rw [hb]; exact q⟩
  ·by_cases hb2 : b = D
   ·exact ⟨_, by rw [hb2]; exact eD⟩
   ·exact ⟨o, keep b o hb hb2 e⟩
 ·obtain ⟨o1, es1, ep1, e1, d1, k1, f1⟩ := hm
  obtain ⟨o2, es2, ep2, e2, d2, k2, f2⟩ := F0.ns
  rw [e1] at e2; cases e2
  rw [d1] at d2; cases d2
  obtain ⟨o3, es3, ep3, e3, d3, k3, f3⟩ := F.ns
  exact ⟨o3, es3, ep3, e3, d3, k3, fun name => (f3 name).trans ((f2 name).symm.trans (f1 name))⟩
 ·by_cases hb : b = D
  ·subst hb; rw [yn] at e; cases e
   exact ⟨hz, its, c, hv, eD⟩
  ·rw [yy hb] at e
   refine (I.hok b u e).stay (fun c v hc q => ?_) (fun c q => by rw [yy (xU q hD (by intro z; cases z))]; exact q) fun c ys q => by rw [yy (xU q hD (by intro z; cases z))]; exact q
   rcases hc with rfl | hc
   ·exact keep c v (neL c u e) hb q
   ·exact keep c v (neL c _ hc) (xU hc hD (by intro z; cases z)) q
theorem lsortT {l : Addr} {ps : List (Addr × List Int)} {A' : Around} {E' : Value -> Shared -> Prop} {Z : Shared -> Prop} (I : Inv X pins σ H s) (hl : H l = some (.lst (ps.map fun a => V.ref a.1))) (h64 : ps.length < 64) (hrow : ∀ a ∈ ps, H a.1 = some (.tup (a.2.map V.int)) /\ a.2 ≠ [])
  (q : ∀ (qs : List (Addr × List Int)) (s' : Shared), List.Perm qs ps -> qs.Pairwise (fun a b => lx b.2 a.2 = false) -> Inv X pins σ (upd H l (.lst (qs.map fun a => V.ref a.1))) s' -> Z s') :
  wpAny (model X.prog X.w) A' (call (.builtin "list.sort") [.ref l]) (fun _ s' => Z s') E' s := by
 obtain ⟨z0, its, n, r', _, el⟩ := I.lstM hl
 have ei := vals_refs r'
 subst ei
 have hlen : (ps.map fun a => Value.ref a.1).length = ps.length := by simp
 have nL : l ≠ X.env.locals := fun z => by rw [z, I.free] at hl; cases hl
 have nB : X.base.get? l = none := by
  cases e : X.base.get? l with
  | none => rfl
  | some u => have := (I.bs l u e).2; rw [hl] at this; cases this
 by_cases h2 : ps.length < 2
 ·refine wpAny_call_entry slot_list_sort ⟨_, el, rfl⟩ entry_list_sort (sort_short el (by omega) ⟨_, rfl, ?_⟩) (args_list_sort _)
  have e1 := get?_update_seq el (fun _ => (#[] : Array Value))
  refine q ps _ (List.Perm.refl _) ?_ (I.write (x := l) (e := l) (t' := s.toks) (by rw [hl]; trivial) (.inl rfl) (fun b u hb e => ?_) ⟨_, get?_update_seq (Heap.get?_push_of_some _ (Heap.get?_push_of_some _ e1)) _⟩ ⟨z0, _, _, r', get?_update_seq (Heap.get?_push_of_some _ (Heap.get?_push_of_some _ e1)) _⟩)
  ·match ps, h2 with
   | [], _ => exact .nil
   | [_], _ => exact List.pairwise_singleton _ _
  ·unfold sortedHeap
   rw [Heap.get?_update_ne _ _ _ _ hb]
   refine Heap.get?_push_of_some _ (Heap.get?_push_of_some _ ?_)
   rw [Heap.get?_update_ne _ _ _ _ hb]
   exact e
 ·obtain ⟨m, F⟩ := I.fr
  refine kat_lsort F (news_at nL nB el) (UpdF.head rest_ne) rfl (by simpa using h2) (by simpa using h64) fun e1 h' F' N' => ?_
  have keep := kept_of_news (h := s.heap) (d := l) I.bk F' (fun p hp => N' p (.tail _ hp))
  have rowAt : ∀ a ∈ ps, RowAt h' a.1 a.2 /\ a.2 ≠ [] := fun a ha => by
   obtain ⟨ht, hn⟩ := hrow a ha
   obtain ⟨_, its, rv, o, e, c, n, d⟩ := I.hok a.1 _ ht
   refine ⟨⟨o, _, n, keep a.1 o (fun z => ?_) (xU ht hl (by intro z; cases z)) e, c, d, rv⟩, hn⟩
   rw [z, I.free] at ht; cases ht
  obtain ⟨fs, kt, lf, hf⟩ := kat_tups rowAt
  simp only [List.toList_toArray] at *
  refine kat_kind (T := .type "int") kt (by omega) (fun v hv => ?_) (by decide) ?_
  ·obtain ⟨i, t, rfl⟩ := hf v hv
   exact Looks.now
  have n1 : 1 <= (ps.map fun a => Value.ref a.1).length := by omega
  refine KOK.wp (c := cf fun i => rk (ps.map (·.2)) ((ps.map (·.2)).getD i [])) (fun i j C hi hj hC => ?_) (fun pp hp => ?_) _ (sort_ok (f := fun i => rk (ps.map (·.2)) ((ps.map (·.2)).getD i [])) n1)
  ·have hi' : i < ps.length := by omega
   have hj' : j < ps.length := by omega
   obtain ⟨⟨o, items, n, ho, hc, hd, hv⟩, hn⟩ := rowAt ps[i] (zY hi')
   obtain ⟨⟨o', items', n', ho', hc', hd', hv'⟩, hn'⟩ := rowAt ps[j] (zY hj')
   unfold kas_ask
   have ei : (ps.map fun a => Value.ref a.1).getD i Value.none = .ref ps[i].1 := by simp [hi']
   have ej : (ps.map fun a => Value.ref a.1).getD j Value.none = .ref ps[j].1 := by simp [hj']
   rw [ei, ej]
   refine kat_lt ho hd ho' hd' (vals_lex hv hv' (by simp) ?_)
   have e : cf (fun i => rk (ps.map (·.2)) ((ps.map (·.2)).getD i [])) i j = lx ps[i].2 ps[j].2 := by
    unfold cf
    have e1 : (ps.map (·.2)).getD i [] = ps[i].2 := by simp [hi']
    have e2 : (ps.map (·.2)).getD j [] = ps[j].2 := by simp [hj']
    simp only [e1, e2]
    exact rk_lt (zQ.mpr ⟨ps[i], zY hi', rfl⟩)
   rw [e] at hC
   exact hC
  ·obtain ⟨pm, up⟩ := hp
   refine KasFin.intro F' N' (UpdF.head rest_ne) fun h2' c F2 N2 => ?_
   have pl : pp.toList.Perm (List.range ps.length) := by
    have := pm.toList
    rw [hlen] at this
    simpa using this
   have eo : (pp.toList.map fun i => (ps.map fun a => Value.ref a.1).getD i Value.none) = (pp.toList.map fun i => ps.getD i (0, [])).map fun a => Value.ref a.1 := by
    rw [zo]
    refine yH fun i hi => ?_
    have hi' : i < ps.length := zp.mp (pl.mem_iff.mp hi)
    simp [hi']
   have perm : (pp.toList.map fun i => ps.getD i (0, [])).Perm ps := by
    have := pl.map fun i => ps.getD i (0, [])
    rwa [range_map] at this
   rw [eo] at N2
   have hzz : ((pp.toList.map fun i => ps.getD i (0, [])).map fun a => V.ref a.1).length <= sizeLine := by
    rw [zA, perm.length_eq, sizeLine_eq]; omega
   refine q _ _ perm ?_ (I.newsIn F F2 hl N2 (vals_of_refs _) hzz)
   rw [yC]
   intro i j hi hj hij
   simp only [zA, Array.length_toList] at hi hj
   simp only [zt, Array.getElem_toList]
   have hn : pp.size = ps.length := by rw [pm.size]; exact hlen
   have key := up i j (yZ hij) (by omega)
   have a1 : pp[i] < ps.length := zp.mp (pl.mem_iff.mp (by simp))
   have a2 : pp[j] < ps.length := zp.mp (pl.mem_iff.mp (by simp))
   unfold g at'  at key
   simp only [hi, hj, getElem?_pos, Option.getD_some] at key
   have e1 : (ps.map (·.2)).getD pp[i] [] = ps[pp[i]].2 := by simp [a1]
   have e2 : (ps.map (·.2)).getD pp[j] [] = ps[pp[j]].2 := by simp [a2]
   rw [e1, e2] at key
   have e3 : ps.getD pp[i] (0, []) = ps[pp[i]] := by simp [a1]
   have e4 : ps.getD pp[j] (0, []) = ps[pp[j]] := by simp [a2]
   rw [e3, e4]
   have := rk_lt (rs := ps.map (·.2)) (a := ps[pp[j]].2) (b := ps[pp[i]].2) (zQ.mpr ⟨_, zY a2, rfl⟩)
   rw [<- this]
   simp only [decide_eq_false_iff_not]
   omega
end
end L2
namespace L2
open PySem PySem.Spec PyProof.Rows PySem.W SmSort
def viewO (v d : Addr) : HO := .ext fun h => h.IsItemsView v d
section
variable {X : Cx}
theorem mt_items : MtR X "dict.items" (fun x xs H Q => ∃ d kvs, x = .ref d /\ xs = [] /\ H d = some (.dK kvs) /\ ∀ v, H v = none -> Q (.ref v) (upd H v (viewO v d))) := by
 intro pins s σ H x xs v us Q I rx rs h
 obtain ⟨d, kvs, rfl, rfl, hd, q⟩ := h
 cases rx
 cases rs
 obtain ⟨_, hS, vs, r, m⟩ := dk_of I.hok hd
 refine call_meetsIn PySem.F.slot_dict_items m.typeIs PySem.F.entry_dict_items (PySem.F.args_dict_items_1 _) (meets_dict_items (mixKind X.prog X.w) d hS) ⟨⟨vs, m⟩, ?_⟩
 exact ⟨.ref _, _, I.laid (t' := s.toks) (fun _ _ q => Heap.get?_push_of_some _ q) (zG _) (show ObjOk X.prog X.w _ _ _ (viewO s.heap.objs.size d) from ⟨⟨_, Heap.get?_push_size _ rfl, rfl, rfl⟩, ⟨_, Heap.get?_push_size _ rfl⟩, fun h1 h2 ⟨o, e, c, dd⟩ k => ⟨o, k o e, c, dd⟩⟩), rfl, q _ I.fresh⟩
theorem kv_get {kv : List (Int × Int)} {vs : List (Key × Value)} (r : KV (kv.map fun p => (Sum.inl p.1, V.int p.2)) vs) {j : Nat} {k : Key} {x : Value} (h : vs[j]? = some (k, x)) : ∃ p t, kv[j]? = some p /\ k = Sum.inl p.1 /\ x = Value.int p.2 t := by
 induction kv generalizing vs j with
 | nil => cases r; cases h
 | cons p kv ih =>
  cases r with
  | cons a b =>
   cases j with
   | zero =>
    obtain rfl : _ = (k, x) := Option.some.inj h
    obtain ⟨e1, t, e2⟩ := a
    exact ⟨p, t, rfl, e1.symm, e2⟩
   | succ j => exact ih b h
theorem call_sortItems (hc : X.calm = true) : CallR X (.builtin "sorted") (fun xs H Q => ∃ v d, ∃ kv : List (Int × Int), xs = [.ref v] /\ H v = some (viewO v d) /\ H d = some (.dK (kv.map fun p => (Sum.inl p.1, V.int p.2))) /\ kv.length < 64 /\
  ∀ l (qs : List (Addr × List Int)) H', Same H H' -> H l = none -> (∀ a ∈ qs, H a.1 = none) -> H' l = some (.lst (qs.map fun a => V.ref a.1)) -> (∀ a ∈ qs, H' a.1 = some (.tup (a.2.map V.int))) -> (qs.map (·.2)).Perm (kv.map fun p => [p.1, p.2]) -> qs.Pairwise (fun a b => lx b.2 a.2 = false) -> Q (.ref l) H') := by
 intro pins s σ H xs us Q I r h
 obtain ⟨v, d, kv, rfl, hv, hd, h64, q⟩ := h
 obtain ⟨u, rfl, rx⟩ := vals1 r
 cases rx
 have line : 1002 <= sizeLine := by rw [sizeLine_eq]; decide
 obtain ⟨_, hS, vs, rv, m⟩ := dk_of I.hok hd
 have lv : vs.length = kv.length := by have := Paired.length rv; rw [zA] at this; omega
 obtain ⟨od, es, ep, ho, hx, hdat, hk, hp, hnd⟩ := m
 have view : s.heap.IsItemsView v d := (I.hok v _ hv).1
 refine Calls.call_function_entry kind_sorted plain_sorted entry_sorted (args_sorted1 _) ?_
 unfold Builtin.«sorted»
 refine wpAny_bind (m := checkCount "sorted" 1 1 _) (wpAny_pure ?_)
 refine wpAny_bind (kdx_collect (knd := mixKind X.prog X.w) (kvs := vs) (ep := ep) (I.ok.hd hc) view ⟨od, es, ho, hx, hdat, hk, hp, hnd⟩ (by omega) fun h1 tk as hk1 hl hG => ?_)
 have la : as.length = kv.length := hl.trans lv
 have each : ∀ p ∈ as.zip (kv.map fun p => [p.1, p.2]), p.1 ∈ as /\ ∃ i j : Int, ∃ t t', p.2 = [i, j] /\ h1.get? p.1 = some { cls := .type "tuple", data := .seq #[.int i t, .int j t'] } := fun p hp => by
  obtain ⟨j, hj⟩ := List.mem_iff_getElem?.mp hp
  rw [List.getElem?_zip_eq_some] at hj
  obtain ⟨e1, e2⟩ := hj
  obtain ⟨key, k, x, g1, g2, g3⟩ := hG.pairs j p.1 e1
  obtain ⟨w, t, w1, w2, w3⟩ := kv_get rv g1
  rw [zC, w1] at e2
  have e3 : [w.1, w.2] = p.2 := Option.some.inj e2
  rcases xT g2 with ⟨i, t', f1, f2⟩ | ⟨i, t', f1, f2⟩
  ·rw [f1] at w2
   cases w2
   exact ⟨zD e1, _, _, t', t, e3.symm, by rw [g3, f2, w3]⟩
  ·rw [f1] at w2; cases w2
 have fst : (as.zip (kv.map fun p => [p.1, p.2])).map (·.1) = as := by
  rw [List.map_fst_zip]; rw [zA]; omega
 have snd : (as.zip (kv.map fun p => [p.1, p.2])).map (·.2) = kv.map fun p => [p.1, p.2] := by
  rw [List.map_snd_zip]; rw [zA]; omega
 have ndA : as.Nodup := hG.rise.imp fun h => zV h
 have lps : (as.zip (kv.map fun p => [p.1, p.2])).length = kv.length := by rw [List.length_zip, zA]; omega
 have efst : as.map Value.ref = (as.zip (kv.map fun p => [p.1, p.2])).map fun a => Value.ref a.1 := by
  conv => lhs; rw [<- fst]
  rw [zo]; rfl
 generalize as.zip (kv.map fun p => [p.1, p.2]) = ps at each fst snd lps efst
 have ndP : ((ps.map fun a => (a.1, a.2.map V.int)).map (·.1)).Nodup := by
  rw [zo]
  show (ps.map fun a => a.1).Nodup
  rw [show (ps.map fun a => a.1) = as from fst]; exact ndA
 have I1 : Inv X pins σ (addT H (ps.map fun a => (a.1, a.2.map V.int))) { s with heap := h1, toks := tk } := by
  refine I.tupsLaid hk1 (fun p hp => ?_) ndP fun p hp => ?_
  ·obtain ⟨a, ha, rfl⟩ := zQ.mp hp
   exact yZ (hG.above _ (each a ha).1)
  ·obtain ⟨a, ha, rfl⟩ := zQ.mp hp
   obtain ⟨_, i, j, t, t', e1, e2⟩ := each a ha
   refine ⟨by rw [e1]; show 2 <= _; omega, [.int i t, .int j t'], ?_, ?_⟩
   ·rw [e1]; exact .cons ⟨t, rfl⟩ (.cons ⟨t', rfl⟩ .nil)
   ·exact ⟨_, e2, rfl, _, rfl⟩
 have fr : ∀ p ∈ ps, H p.1 = none := fun p hp => I.hok.fresh (yZ (hG.above _ (each p hp).1))
 have sm : Same H (addT H (ps.map fun a => (a.1, a.2.map V.int))) := addT_same fun p hp => by
  obtain ⟨a, ha, rfl⟩ := zQ.mp hp
  exact fr a ha
 rw [efst]
 refine wpAny_bind (wpAny_newList ?_ (by rw [zA]; omega))
 have I2 := I1.lnew (t' := tk) (vals_of_refs ps) (by rw [zA]; omega)
 have nB := I1.fresh
 refine wpAny_bind (wpAny_holding (wpAny_mono (lsortT (Z := fun s' => EP X pins σ Q (.ref h1.objs.size) s') I2 yn (by omega) (fun a ha => ?_) fun qs s' pm pw I3 => ?_) (fun _ s' z => wpAny_pure ⟨_, rfl, z⟩) fun _ _ e => e))
 ·obtain ⟨_, i, j, t, t', e1, e2⟩ := each a ha
  refine ⟨?_, by rw [e1]; simp⟩
  have := addT_at (H := H) ndP (a.1, a.2.map V.int) (zQ.mpr ⟨a, ha, rfl⟩)
  rw [yy (yr this nB)]; exact this
 ·rw [upd_upd] at I3
  refine ⟨.ref h1.objs.size, _, I3, rfl, q _ qs _ ?_ ?_ ?_ yn ?_ ?_ pw⟩
  ·intro b u e
   have := sm b u e
   rw [yy (yr this nB)]; exact this
  ·cases e : H h1.objs.size with
   | none => rfl
   | some u => have := sm _ u e; rw [nB] at this; cases this
  ·exact fun a ha => fr a (pm.mem_iff.mp ha)
  ·intro a ha
   have := addT_at (H := H) ndP (a.1, a.2.map V.int) (zQ.mpr ⟨a, pm.mem_iff.mp ha, rfl⟩)
   rw [yy (yr this nB)]; exact this
  ·rw [<- snd]; exact pm.map _
end
end L2
set_option Elab.async false
set_option linter.all false
set_option maxRecDepth 100000
set_option maxHeartbeats 400000
namespace L2
open PySem PySem.Spec PyProof.Rows
theorem op_inD {X : Cx} (hu : X.A.units + 64 < cLine) : OpR X (compareOp .In) (fun x y H Q => ∃ a o, y = .ref a /\ DGet H a x o /\ Q (.bl o.isSome) H) := by
 intro pins s σ H x y v u Q I rx ry h
 obtain ⟨a, o, rfl, g, q⟩ := h
 cases ry
 exact d_in (by omega) I g rx fun s' I' => ⟨.bl _, H, I', rfl, q⟩
theorem op_notInD {X : Cx} (hu : X.A.units + 64 < cLine) : OpR X (compareOp .NotIn) (fun x y H Q => ∃ a o, y = .ref a /\ DGet H a x o /\ Q (.bl (!o.isSome)) H) := by
 intro pins s σ H x y v u Q I rx ry h
 obtain ⟨a, o, rfl, g, q⟩ := h
 cases ry
 exact d_notIn (by omega) I g rx fun s' I' => ⟨.bl _, H, I', rfl, q⟩
end L2
namespace Sm
open PySem L2 SmSort
def letRow (x : L4) : List V := [.int (x.s : Int), .int x.a, .int (x.w : Int), .int x.z]
def kvV (kv : List (Int × Int)) : List (Key × V) := kv.map fun p => (Sum.inl p.1, V.int p.2)
structure TripAt (C : Addr) (H : Hp) (x b dx lL lH lA lP lD : Addr) (ls : List (Addr × L4)) (hs : List (Addr × List (Int × Int))) (os : List (Option Int)) (ns : List Int) (r : Int) (ds : List V) : Prop where
 ins : H x = some (.ins C dx [("book", .ref b), ("letters", .ref lL), ("holders", .ref lH), ("arrivals", .ref lA), ("passed", .ref lP), ("reached", .int r), ("deeds", .ref lD)])
 lts : H lL = some (.lst (ls.map fun l => V.ref l.1))
 rows : ∀ l ∈ ls, H l.1 = some (.tup (letRow l.2))
 hol : H lH = some (.lst (hs.map fun h => V.ref h.1))
 hols : ∀ h ∈ hs, H h.1 = some (.dK (kvV h.2))
 arr : H lA = some (.lst (os.map oV))
 pas : H lP = some (.lst (ns.map V.int))
 dee : H lD = some (.lst ds)
theorem TripAt.same {C : Addr} {H H' : Hp} {x b dx lL lH lA lP lD : Addr} {ls : List (Addr × L4)} {hs : List (Addr × List (Int × Int))} {os : List (Option Int)} {ns : List Int} {r : Int} {ds : List V} (t : TripAt C H x b dx lL lH lA lP lD ls hs os ns r ds) (s : Same H H') :
  TripAt C H' x b dx lL lH lA lP lD ls hs os ns r ds := ⟨s _ _ t.ins, s _ _ t.lts, fun l hl => s _ _ (t.rows l hl), s _ _ t.hol, fun h hh => s _ _ (t.hols h hh), s _ _ t.arr, s _ _ t.pas, s _ _ t.dee⟩
def begA (x : L4) : Option Int := if x.s = x.w /\ x.a <= x.z then some x.a else none
def spTakes (C : Addr) : Sp := fun vs H Q _ => ∃ x b dx lL lH lA lP lD ls hs os ns r ds, ∃ n : Nat, ∃ w : Int, ∃ l, vs = [.ref x, .int (n : Int), .int w] /\ TripAt C H x b dx lL lH lA lP lD ls hs os ns r ds /\ ls[n]? = some l /\
 ∀ H', Same H H' -> Q (.bl (!(decide (w = l.2.s) || decide (w = l.2.w)))) H'
def noteA (os : List (Option Int)) (n : Nat) (l : L4) (w t : Int) : List (Option Int) := if w = l.w /\ t <= l.z /\ os[n]? = some none then os.set n (some t) else os
def spNote (C : Addr) : Sp := fun vs H Q _ => ∃ x b dx lL lH lA lP lD ls hs os ns r ds, ∃ n : Nat, ∃ w t : Int, ∃ l, vs = [.ref x, .int (n : Int), .int w, .int t] /\ TripAt C H x b dx lL lH lA lP lD ls hs os ns r ds /\ ls[n]? = some l /\ n < os.length /\
 ∀ H', But lA H H' -> H' lA = some (.lst ((noteA os n l.2 w t).map oV)) -> Q .non H'
def spHaving (C : Addr) : Sp := fun vs H Q _ => ∃ x b dx lL lH lA lP lD ls hs os ns r ds, ∃ n : Nat, ∃ h, vs = [.ref x, .int (n : Int)] /\ TripAt C H x b dx lL lH lA lP lD ls hs os ns r ds /\ hs[n]? = some h /\ h.2.length < 64 /\
 ∀ l (qs : List (Addr × List Int)) H', Same H H' -> H l = none -> (∀ a ∈ qs, H a.1 = none) -> H' l = some (.lst (qs.map fun a => V.ref a.1)) -> (∀ a ∈ qs, H' a.1 = some (.tup (a.2.map V.int))) -> (qs.map (·.2)).Perm (h.2.map fun p => [p.1, p.2]) -> qs.Pairwise (fun a b => lx b.2 a.2 = false) -> Q (.ref l) H'
def spCome (C : Addr) : Sp := fun vs H Q _ => ∃ x b dx lL lH lA lP lD ls hs os ns r ds, ∃ n : Nat, ∃ o, vs = [.ref x, .int (n : Int)] /\ TripAt C H x b dx lL lH lA lP lD ls hs os ns r ds /\ os[n]? = some o /\ Q (oV o) H
def spDone (C : Addr) : Sp := fun vs H Q _ => ∃ x b dx lL lH lA lP lD ls hs os ns r ds, vs = [.ref x] /\ TripAt C H x b dx lL lH lA lP lD ls hs os ns r ds /\ ∀ l, H l = none -> Q (.ref l) (upd H l (.lst ds))
def inBag (w : Int) (l : Option (Addr × L4)) (h : Option (Addr × List (Int × Int))) : Bool := match l, h with
 | some l, some h => (h.2.any fun p => decide (p.1 = w)) && !(decide (w = l.2.s) || decide (w = l.2.w))
 | _, _ => false
def bagTo (w : Int) (ls : List (Addr × L4)) (hs : List (Addr × List (Int × Int))) : Nat -> List Int
 | 0 => []
 | i + 1 => bagTo w ls hs i ++ (if inBag w ls[i]? hs[i]? then [(i : Int)] else [])
theorem bagTo_len (w : Int) (ls : List (Addr × L4)) (hs : List (Addr × List (Int × Int))) : ∀ i, (bagTo w ls hs i).length <= i
 | 0 => zG _
 | i + 1 => by
  have := bagTo_len w ls hs i
  unfold bagTo
  rw [zT]
  split <;> simp <;> omega
def spBag (C : Addr) : Sp := fun vs H Q _ => ∃ x b dx lL lH lA lP lD ls hs os ns r ds, ∃ w : Int, vs = [.ref x, .int w] /\ TripAt C H x b dx lL lH lA lP lD ls hs os ns r ds /\ hs.length <= 41 /\ hs.length = ls.length /\
 ∀ l H', Same H H' -> H l = none -> H' l = some (.lst ((bagTo w ls hs hs.length).map V.int)) -> Q (.ref l) H'
theorem valV_any {kv : List (Int × Int)} {w : Int} : (valV (kvV kv) (Sum.inl w)).isSome = kv.any fun p => decide (p.1 = w) := by
 unfold valV kvV
 rw [yh, zw, List.find?_isSome, List.any_eq_true]
 constructor
 ·rintro ⟨p, hp, e⟩
  obtain ⟨q, hq, rfl⟩ := zQ.mp hp
  have e1 := of_decide_eq_true e
  exact ⟨q, hq, decide_eq_true (Sum.inl.inj e1)⟩
 ·rintro ⟨q, hq, e⟩
  exact ⟨_, zQ.mpr ⟨q, hq, rfl⟩, decide_eq_true (congrArg Sum.inl (of_decide_eq_true e))⟩
theorem same_put {H H' : Hp} {l : Addr} {o : HO} (s : Same H H') (h : H l = none) : Same H (upd H' l o) := fun b u e => by
 rw [yy (yr e h)]; exact s b u e
theorem Same.but {H H' : Hp} {x : Addr} (s : Same H H') : But x H H' := fun b u _ e => s b u e
def osTo (ls : List (Addr × L4)) (i : Nat) : List (Option Int) := ((ls.take i).map fun l => begA l.2) ++ List.replicate (ls.length - i) none
theorem osTo_0 (ls : List (Addr × L4)) : osTo ls 0 = List.replicate ls.length none := by simp [osTo]
theorem osTo_all (ls : List (Addr × L4)) : osTo ls ls.length = ls.map fun l => begA l.2 := by simp [osTo]
theorem osTo_len {ls : List (Addr × L4)} {i : Nat} (h : i <= ls.length) : (osTo ls i).length = ls.length := by simp [osTo]; omega
theorem osTo_step {ls : List (Addr × L4)} {i : Nat} {l : Addr × L4} (h : ls[i]? = some l) : noteA (osTo ls i) i l.2 (l.2.s : Int) l.2.a = osTo ls (i + 1) := by
 have hi : i < ls.length := (zB.mp h).1
 have lt : ((ls.take i).map fun l => begA l.2).length = i := by simp; omega
 obtain ⟨k, ek⟩ : ∃ k, ls.length - i = k + 1 := ⟨ls.length - i - 1, by omega⟩
 have e1 : ls.length - (i + 1) = k := by omega
 have at1 : (osTo ls i)[i]? = some none := by
  unfold osTo
  rw [zg (by omega), lt, ek, Nat.sub_self]
  rfl
 have e2 : osTo ls (i + 1) = ((ls.take i).map fun l => begA l.2) ++ begA l.2 :: List.replicate k none := by
  unfold osTo
  rw [xR h, zL, e1, List.append_assoc]
  rfl
 have e3 : osTo ls i = ((ls.take i).map fun l => begA l.2) ++ none :: List.replicate k none := by
  unfold osTo
  rw [ek, List.replicate_succ]
 rw [e2]
 unfold noteA
 rw [at1]
 by_cases c : l.2.s = l.2.w /\ l.2.a <= l.2.z
 ·rw [if_pos ⟨by rw [c.1], c.2, rfl⟩, e3, List.set_append_right _ _ (by omega), lt, Nat.sub_self]
  have : begA l.2 = some l.2.a := by unfold begA; rw [if_pos c]
  rw [this]
  rfl
 ·rw [if_neg (fun z => c ⟨by have := z.1; omega, z.2.1⟩), e3]
  have : begA l.2 = none := by unfold begA; rw [if_neg c]
  rw [this]
def spLetters : Sp := fun vs H Q _ => ∃ p b rooms tr tm ps, vs = [.ref p, .ref b] /\ BookAt H b rooms tr tm ps /\ 1 <= rooms.length /\ rooms.length <= 1000 /\ Good rooms.length (ps.map (·.2)) /\ Purse H p /\
 ∀ l (ls : List (Addr × L4)) H', Go p H H' -> H' l = some (.lst (ls.map fun x => V.ref x.1)) -> (∀ x ∈ ls, H' x.1 = some (.tup (letRow x.2))) -> ls.length <= 41 -> l ≠ p -> Q (.ref l) H'
end Sm
set_option Elab.async false
set_option linter.all false
set_option maxRecDepth 100000
set_option maxHeartbeats 400000
namespace L2
open PySem PySem.Spec PyProof.Rows
section
variable {X : Cx} {k : Nat} {f C : Addr} {fd : FuncData} {ps : List Str} {sp : Sp} {dvs : List V} {ds : List Value} {m : Str} {apos pos : Pos} {e o : Expr} {es : List Expr} {ta : TE} {t : TA}
theorem methX {pins : List (Addr × Obj)} {σ : St} {H : Hp} {s : Shared} {Q : VK} {Eh : XK} {Z : Value -> Shared -> Prop} {pl : Sem Bool} (he : PE X.nox o ta) (c : Cls X.K C) (hm : Meth X.K C m f) (F : FnOk X.prog X.w X.K X.mg X.base (CXE X.prog X.w) k f fd ps sp) (hr : Room k X.A) (hb : Binds X.K fd ps ds) (hd : Vals dvs ds) (ha : PA X.nox (e :: es) t)
  (I : Inv X pins σ H s) (h : tMeth C m sp dvs Eh ta t σ H Q) (hx : ∀ H1 s1 e s', Inv X pins σ H1 s1 -> CXE X.prog X.w X.stack H1 s1 Eh e s' -> Z e s')
  (hst : starEach (e :: es) X.env = (false, eval e X.env) :: starEach es X.env) (hpl : (backTo pos (starEach es X.env)).any (·.1) = false)
  (ht : eval (.Call (.Attribute o m apos) (e :: es) [] pos) X.env = (do
   let ov <- eval o X.env
   standAt apos.atName
   let (f, first) <- holding [ov] (getMethod ov m pl)
   callWith pos f first (backTo pos (starEach (e :: es) X.env)) (backToKw pos (keywordEach [] X.env)))) :
  wpAny (model X.prog X.w) X.A (eval (.Call (.Attribute o m apos) (e :: es) [] pos) X.env) (EP X pins σ Q) Z s := by
 refine PySem.W.methodCall_KW (pl := pl) (wpAny_mono (he pins s σ H _ (I.wish _) h) (fun u s1 ⟨x, H1, I1, rx, a, dx, fs, ex, ea, l, q⟩ => ?_) fun _ _ z => z.elim) ht
 subst ex
 obtain rfl : u = Value.ref a := rx
 have J1 := I1.unwish
 refine getmeth_ok J1 ea c hm l ?_
 refine PySem.W.callWith_K (first := [.ref a]) (h₀ := X.base) I.ok.mod.kin hm.kp (wpAny_mono (ha pos pins s1 σ H1 _ I1 q) (fun us s2 ⟨vs, H2, I2, r, q2⟩ => ⟨I2.unwish.kIn, ?_⟩) fun _ _ z => z.elim) hst hpl
 exact run_fnX (us := .ref a :: us) (vs := .ref a :: vs) F hr hb hd (fun e s' z => hx H2 s2 e s' I2.unwish z) I2.unwish (.cons rfl r) q2
theorem psx_setMeth {pl : Sem Bool} {pos' yp : Pos} {i : Nat} {y : Str} (he : PE X.nox o ta) (c : Cls X.K C) (hm : Meth X.K C m f) (F : FnOk X.prog X.w X.K X.mg X.base (CXE X.prog X.w) k f fd ps sp) (hr : Room k X.A) (hb : Binds X.K fd ps ds) (hd : Vals dvs ds) (hN : X.N.Nodup) (hi : X.N[i]? = some y) (hy : Loc X.env.scope y) (ha : PA X.nox (e :: es) t)
  (hst : starEach (e :: es) X.env = (false, eval e X.env) :: starEach es X.env := by rfl) (hpl : (backTo pos (starEach es X.env)).any (·.1) = false := by rfl)
  (ht : eval (.Call (.Attribute o m apos) (e :: es) [] pos) X.env = (do
   let ov <- eval o X.env
   standAt apos.atName
   let (f, first) <- holding [ov] (getMethod ov m pl)
   callWith pos f first (backTo pos (starEach (e :: es) X.env)) (backToKw pos (keywordEach [] X.env))) := by rfl)
  (hs : swapsWith (.Call (.Attribute o m apos) (e :: es) [] pos) (some (.Name y yp)) pos'.line X.env = pure false := by rfl) (hf : X.fn y = true \/ X.env.scope.names.lookup y = some .local := by first | exact .inl rfl | exact .inr rfl | assumption) :
  PSx X [.Assign [.Name y yp] (.Call (.Attribute o m apos) (e :: es) [] pos) pos'] (fun Eh => tAsg (tMeth C m sp dvs Eh ta t) (gName i)) := by
 intro pins s σ H D Eh Z I h hx
 refine wpAny_execs_cons (wpAny_Assign_Name (thn (methX he c hm F hr hb hd ha I h hx hst hpl ht) fun v s1 ⟨z, H1, I1, r1, q1⟩ => ?_) hs)
 exact store_ok I1 hN hi hy r1 (fun s2 I2 => wpAny_execs_nil ⟨_, H1, I2, q1⟩) hf
end
end L2
set_option Elab.async false
set_option linter.all false
set_option maxRecDepth 100000
set_option maxHeartbeats 400000
namespace L2
open PySem PySem.Spec PyProof.Rows
theorem mt_dget {X : Cx} (hu : X.A.units + 64 < cLine) : MtR X "dict.get" (fun x xs H Q => ∃ a y o, x = .ref a /\ xs = [y] /\ DGet H a y o /\ Q (o.getD .non) H) := by
 intro pins s σ H x xs v us Q I rx rs h
 obtain ⟨a, y, o, rfl, rfl, g, q⟩ := h
 cases rx
 obtain ⟨u, rfl, ru⟩ := vals1 rs
 exact d_get1 (by omega) I g ru fun w' s' I' r' => ⟨_, H, I', r', q⟩
end L2
set_option Elab.async false
set_option linter.all false
set_option maxRecDepth 100000
set_option maxHeartbeats 400000
namespace L2
open PySem PySem.Spec PyProof.Rows
section
variable {X : Cx}
def absF (f : V -> Bool) (v : Value) : Bool := match absV v with | some x => f x | none => false
theorem absF_of {f : V -> Bool} {x : V} {v : Value} (r : RelV x v) : absF f v = f x := by unfold absF; rw [r.abs]
theorem vals_mem : ∀ {xs : List V} {us : List Value}, Vals xs us -> ∀ u ∈ us, ∃ x ∈ xs, RelV x u
 | _, _, .nil, u, h => by cases h
 | _, _, .cons r rr, u, h => by
  cases h with
  | head => exact ⟨_, .head _, r⟩
  | tail _ h => obtain ⟨x, hx, rx⟩ := vals_mem rr u h; exact ⟨x, .tail _ hx, rx⟩
theorem countP_abs {f : V -> Bool} : ∀ {xs : List V} {us : List Value}, Vals xs us -> us.countP (absF f) = xs.countP f
 | _, _, .nil => rfl
 | _, _, .cons r rr => by rw [List.countP_cons, List.countP_cons, countP_abs rr, absF_of r]
def rCount (K : PySem.W.Frag) : V -> List V -> Hp -> VK -> Prop := fun x vs H Q => ∃ (n : Nat) (p : Addr) (xs : List V) (y : V) (f : V -> Bool), n <= 20 /\ x = .ref p /\ vs = [y] /\ SqL K H p xs /\ (∀ u ∈ xs, Eqv K H n u y (f u)) /\ Q (.int (xs.countP f : Nat)) H
theorem mt_count {K : PySem.W.Frag} (hK : X.K = K) (hu : X.A.units + 64 < cLine) : MtR X "list.count" (rCount K) := by
 subst hK
 intro pins s σ H x vs v us Q I rx rv h
 obtain ⟨n, p, xs, y, f, hn, rfl, rfl, hq, he, q⟩ := h
 cases rx
 obtain ⟨u, rfl, ru⟩ := rv.one
 obtain ⟨its, r, ⟨o, m, ho, hc, hd, hs⟩, z⟩ := I.list hq
 obtain ⟨cls, dd, data, sl⟩ := o
 dsimp only at hc hd hs
 cases hc; cases hd; cases hs
 refine call_meets PySem.F.slot_list_count ⟨_, ho, rfl⟩ PySem.F.entry_list_count (PySem.F.args_list_count_2 _ _) (SeqAt.list_countAt p its.toArray m _ _ u (absF f)) ⟨ho, fun w hw => ?_, ?_⟩
 ·obtain ⟨x0, hx0, r0⟩ := vals_mem r w (by simpa using hw)
  rw [absF_of r0]
  exact eqv_eq I n (A := X.A.in1) (by show X.A.units + 1 + n < cLine; omega) (he x0 hx0) r0 ru
 ·rw [show its.toArray.toList = its from rfl, countP_abs r]
  exact ⟨.int _, H, I.tok _, ⟨_, rfl⟩, q⟩
def rIndex (K : PySem.W.Frag) : V -> List V -> Hp -> VK -> Prop := fun x vs H Q => ∃ (n : Nat) (p : Addr) (xs : List V) (y : V) (f : V -> Bool) (j : Nat) (u : V), n <= 20 /\ x = .ref p /\ vs = [y] /\ SqL K H p xs /\ (∀ u ∈ xs, Eqv K H n u y (f u)) /\ xs[j]? = some u /\ f u = true /\ (∀ m, m < j -> ∀ w, xs[m]? = some w -> f w = false) /\ j < 100000 /\ Q (.int (j : Nat)) H
theorem mt_index {K : PySem.W.Frag} (hK : X.K = K) (hu : X.A.units + 64 < cLine) : MtR X "list.index" (rIndex K) := by
 subst hK
 intro pins s σ H x vs v us Q I rx rv h
 obtain ⟨n, p, xs, y, f, j, u0, hn, rfl, rfl, hq, he, hj, hf, hno, hsm, q⟩ := h
 cases rx
 obtain ⟨u, rfl, ru⟩ := rv.one
 obtain ⟨its, r, ⟨o, m, ho, hc, hd, hs⟩, z⟩ := I.list hq
 obtain ⟨cls, dd, data, sl⟩ := o
 dsimp only at hc hd hs
 cases hc; cases hd; cases hs
 obtain ⟨w0, hw0, rw0⟩ := r.get hj
 have jl : j < its.length := (zB.mp hw0).1
 refine call_meets PySem.F.slot_list_index ⟨_, ho, rfl⟩ PySem.F.entry_list_index (PySem.F.args_list_index_2 _ _) (SeqAt.list_indexAt p its.toArray m _ _ u (absF f) j (by simpa using jl) (by omega) ?_ ?_) ⟨ho, fun w hw => ?_, ?_⟩
 ·have e : its.toArray[j]'(by simpa using jl) = w0 := by simpa using (zB.mp hw0).2
  rw [e, absF_of rw0]; exact hf
 ·intro k hk kj
  have kl : k < its.length := by simpa using hk
  obtain ⟨xk, hxk, rk⟩ := xo r (j := k) (by simpa using kl)
  rw [absF_of rk]
  exact hno k kj xk hxk
 ·obtain ⟨x0, hx0, r0⟩ := vals_mem r w (by simpa using hw)
  rw [absF_of r0]
  exact eqv_eq I n (A := X.A.in1) (by show X.A.units + 1 + n < cLine; omega) (he x0 hx0) r0 ru
 ·exact ⟨.int _, H, I.tok _, ⟨_, rfl⟩, q⟩
end
end L2
set_option Elab.async false
set_option linter.all false
set_option maxRecDepth 100000
set_option maxHeartbeats 400000
namespace Sm
open PySem L2 SmSort
structure Tr where
 x : Addr
 b : Addr
 dx : Addr
 lL : Addr
 lH : Addr
 lA : Addr
 lP : Addr
 lD : Addr
 ls : List (Addr × L4)
 hs : List (Addr × List (Int × Int))
 os : List (Option Int)
 ns : List Int
 r : Int
 ds : List V
structure TrOk (C : Addr) (H : Hp) (t : Tr) (rooms : List Int) (tr tm : Addr) (ps : List (Addr × M4)) (n0 : Nat) : Prop where
 at_ : TripAt C H t.x t.b t.dx t.lL t.lH t.lA t.lP t.lD t.ls t.hs t.os t.ns t.r t.ds
 bk : BookAt H t.b rooms tr tm ps
 gd : Good rooms.length (ps.map (·.2))
 rm : rooms.length <= 12
 lh : t.hs.length = t.ls.length
 lo : t.os.length = t.ls.length
 ln : t.ns.length = ps.length
 few : t.ls.length <= 41
 sh : ∀ h ∈ t.hs, h.2.length <= n0
 dn : t.ds.length <= n0
 nd : t.lL ≠ t.lA /\ t.lL ≠ t.lP /\ t.lL ≠ t.lD /\ t.lH ≠ t.lA /\ t.lH ≠ t.lP /\ t.lH ≠ t.lD /\ t.lA ≠ t.lP /\ t.lA ≠ t.lD /\ t.lP ≠ t.lD
 hnd : (t.hs.map (·.1)).Nodup
def Tr.own (t : Tr) (c : Addr) : Prop := c = t.x \/ c = t.lA \/ c = t.lP \/ c = t.lD \/ c ∈ t.hs.map (·.1)
def Keeps (t : Tr) (H H' : Hp) : Prop := ∀ c u, ¬ t.own c -> H c = some u -> H' c = some u
theorem Keeps.same {t : Tr} {H H' : Hp} (s : Same H H') : Keeps t H H' := fun c u _ e => s c u e
theorem Keeps.trans {t : Tr} {H H1 H2 : Hp} (a : Keeps t H H1) (b : Keeps t H1 H2) : Keeps t H H2 := fun c u n e => b c u n (a c u n e)
theorem TrOk.same {C : Addr} {H H' : Hp} {t : Tr} {rooms : List Int} {tr tm : Addr} {ps : List (Addr × M4)} {n0 : Nat} (k : TrOk C H t rooms tr tm ps n0) (s : Same H H') : TrOk C H' t rooms tr tm ps n0 :=
 ⟨k.at_.same s, k.bk.same s, k.gd, k.rm, k.lh, k.lo, k.ln, k.few, k.sh, k.dn, k.nd, k.hnd⟩
theorem TrOk.keep {C : Addr} {H H' : Hp} {t : Tr} {rooms : List Int} {tr tm : Addr} {ps : List (Addr × M4)} {n0 : Nat} (k : TrOk C H t rooms tr tm ps n0) (kp : ∀ c u, (t.own c \/ c = t.lL \/ c = t.lH \/ ∃ xs, H c = some (.tup xs)) -> H c = some u -> H' c = some u) : TrOk C H' t rooms tr tm ps n0 := by
 have tu : Tups H H' := fun c xs e => kp c _ (.inr (.inr (.inr ⟨xs, e⟩))) e
 refine ⟨⟨kp _ _ (.inl (.inl rfl)) k.at_.ins, kp _ _ (.inr (.inl rfl)) k.at_.lts, fun l hl => tu _ _ (k.at_.rows l hl), kp _ _ (.inr (.inr (.inl rfl))) k.at_.hol, fun h hh => kp _ _ (.inl (.inr (.inr (.inr (.inr (zQ.mpr ⟨h, hh, rfl⟩)))))) (k.at_.hols h hh), kp _ _ (.inl (.inr (.inl rfl))) k.at_.arr, kp _ _ (.inl (.inr (.inr (.inl rfl)))) k.at_.pas, kp _ _ (.inl (.inr (.inr (.inr (.inl rfl))))) k.at_.dee⟩, k.bk.tups tu, k.gd, k.rm, k.lh, k.lo, k.ln, k.few, k.sh, k.dn, k.nd, k.hnd⟩
def kvget (kv : List (Int × Int)) (w : Int) : Option Int := (kv.find? fun p => decide (p.1 = w)).map (·.2)
def kvput (kv : List (Int × Int)) (w t : Int) : List (Int × Int) := if (kv.any fun p => decide (p.1 = w)) = true then kv.map (fun p => if p.1 = w then (p.1, t) else p) else kv ++ [(w, t)]
def kvdel (kv : List (Int × Int)) (w : Int) : List (Int × Int) := kv.filter fun p => decide (p.1 ≠ w)
theorem xx {w : Int} : ∀ {kv : List (Int × Int)}, valV (kvV kv) (Sum.inl w) = (kvget kv w).map V.int
 | [] => rfl
 | p :: kv => by
  have ih := xx (w := w) (kv := kv)
  by_cases c : p.1 = w
  ·rw [show kvV (p :: kv) = (Sum.inl p.1, V.int p.2) :: kvV kv from rfl, xi (congrArg Sum.inl c)]
   simp [kvget, c]
  ·rw [show kvV (p :: kv) = (Sum.inl p.1, V.int p.2) :: kvV kv from rfl, xj (fun z => c (Sum.inl.inj z)), ih]
   simp [kvget, c]
theorem kv_any {kv : List (Int × Int)} {w : Int} : (kv.any fun p => decide (p.1 = w)) = (kvget kv w).isSome := by
 rw [<- valV_any, xx, zw]
theorem putK_kv {kv : List (Int × Int)} {w t : Int} : putK (kvV kv) (Sum.inl w) (.int t) = kvV (kvput kv w t) := by
 have e : ((kvV kv).any fun p => decide (p.1 = (Sum.inl w : Key))) = kv.any fun p => decide (p.1 = w) := by
  unfold kvV
  rw [List.any_map]
  congr 1
  funext p
  exact decide_eq_decide.mpr ⟨Sum.inl.inj, congrArg Sum.inl⟩
 unfold putK kvput
 rw [e]
 split
 ·unfold kvV
  rw [zo, zo]
  refine yH fun p _ => ?_
  by_cases c : p.1 = w
  ·simp [c]
  ·simp [c]
 ·unfold kvV
  rw [zL]; rfl
theorem dropK_kv {kv : List (Int × Int)} {w : Int} : dropK (kvV kv) (Sum.inl w) = kvV (kvdel kv w) := by
 unfold dropK kvV kvdel
 rw [List.filter_map]
 congr 1
 refine List.filter_congr fun p _ => ?_
 exact decide_eq_decide.mpr ⟨fun h z => h (congrArg Sum.inl z), fun h z => h (Sum.inl.inj z)⟩
theorem kvput_len (kv : List (Int × Int)) (w t : Int) : (kvput kv w t).length <= kv.length + 1 := by
 unfold kvput
 split
 ·rw [zA]; omega
 ·rw [zT]; exact zG _
theorem kvdel_len (kv : List (Int × Int)) (w : Int) : (kvdel kv w).length <= kv.length := List.length_filter_le _ _
structure XC where
 deed : Addr
 meet : Addr
 lett : Addr
 walk : Addr
 there : Addr
 has : Addr
 pass : Addr
 room : Addr
def XC.of (X : XC) : Nat -> Addr
 | 0 => X.deed
 | 1 => X.meet
 | 2 => X.lett
 | 3 => X.walk
 | 4 => X.there
 | 5 => X.has
 | 6 => X.pass
 | _ => X.room
def takB (L : L4) (o : Int) : Bool := !(decide (o = L.s) || decide (o = L.w))
def othI (M : M4) (g : Int) : Int := if g = M.lo then M.hi else M.lo
def codeP2 (rooms : List Int) (M : M4) (L : L4) (kv : List (Int × Int)) (n : Int) (bag : Nat) (g : Int) : Nat :=
 if g = M.lo \/ g = M.hi then
  if below (kvget kv g) M.t = true then
   if (kvget kv (othI M g)).isSome = true then 5
   else if M.m <= n then 6
   else if (takB L (othI M g) && decide ((rooms[(othI M g).toNat]?.getD 0) <= (bag : Int))) = true then 7
   else 8
  else 4
 else 3
def codeP (rooms : List Int) (ms : List M4) (t : Tr) (m l g : Int) : Nat :=
 if 0 <= m /\ m < ms.length /\ t.r <= m then
  if 0 <= l /\ l < t.ls.length then
   match ms[m.toNat]?, t.ls[l.toNat]?, t.hs[l.toNat]? with
   | some M, some L, some h => codeP2 rooms M L.2 h.2 (t.ns[m.toNat]?.getD 0) (bagTo (othI M g) t.ls t.hs t.hs.length).length g
   | _, _, _ => 2
  else 2
 else 1
def codeD (rooms : List Int) (t : Tr) (l w : Int) : Nat :=
 if 0 <= l /\ l < t.ls.length then
  if 0 <= w /\ w < rooms.length then
   match t.hs[l.toNat]? with
   | some h => if (kvget h.2 w).isSome = true then 8 else 4
   | none => 4
  else 3
 else 2
inductive Dd where
 | pass (give : Bool) (m l g : Int)
 | drop (l w : Int)
def wordG : Bool -> Str
 | true => Str.ofString "give"
 | false => Str.ofString "copy"
def Dd.vs : Dd -> List V
 | .pass gv m l g => [.str (wordG gv), .int m, .int l, .int g]
 | .drop l w => [.str (Str.ofString "drop"), .int l, .int w]
def codeT (rooms : List Int) (ms : List M4) (t : Tr) : Dd -> Nat
 | .pass _ m l g => codeP rooms ms t m l g
 | .drop l w => codeD rooms t l w
def Tr.setH (t : Tr) (l : Nat) (kv : List (Int × Int)) : Tr := { t with hs := match t.hs[l]? with | some h => t.hs.set l (h.1, kv) | none => t.hs }
def Tr.kv (t : Tr) (l : Nat) : List (Int × Int) := match t.hs[l]? with | some h => h.2 | none => []
def Tr.passed (t : Tr) (m l : Nat) (M : M4) (L : L4) (o : Int) : Tr :=
 { t.setH l (kvput (t.kv l) o M.t) with ns := t.ns.set m (t.ns[m]?.getD 0 + 1), r := m, os := noteA t.os l L o M.t }
def Tr.doneP (t : Tr) (give : Bool) (m l : Nat) (g : Int) (M : M4) (L : L4) : Tr :=
 if give = true then (t.passed m l M L (othI M g)).setH l (kvdel ((t.passed m l M L (othI M g)).kv l) g) else t.passed m l M L (othI M g)
def Tr.doneT (t : Tr) (ms : List M4) (y : V) (d : Dd) : Tr := { (match d with
 | .pass give m l g => (match ms[m.toNat]?, t.ls[l.toNat]? with | some M, some L => t.doneP give m.toNat l.toNat g M L.2 | _, _ => t)
 | .drop l w => t.setH l.toNat (kvdel (t.kv l.toNat) w)) with ds := t.ds ++ [y] }
def DeedAt (H : Hp) (y : V) (d : Dd) : Prop := ∃ a, y = .ref a /\ H a = some (.tup d.vs)
theorem DeedAt.tups {H H' : Hp} {y : V} {d : Dd} (h : DeedAt H y d) (t : Tups H H') : DeedAt H' y d := by
 obtain ⟨a, e, h⟩ := h; exact ⟨a, e, t _ _ h⟩
section
variable {C : Addr} {H H' : Hp} {t : Tr} {rooms : List Int} {tr tm : Addr} {ps : List (Addr × M4)} {n0 : Nat}
theorem TrOk.kvAt (k : TrOk C H t rooms tr tm ps n0) {l : Nat} (hl : l < t.ls.length) : ∃ h, t.hs[l]? = some h /\ t.kv l = h.2 /\ H h.1 = some (.dK (kvV h.2)) := by
 have hh : t.hs[l]? = some (t.hs[l]'(by rw [k.lh]; exact hl)) := zE _
 refine ⟨_, hh, ?_, k.at_.hols _ (zY _)⟩
 unfold Tr.kv; rw [hh]
theorem TrOk.hset (k : TrOk C H t rooms tr tm ps n0) {l : Nat} {h : Addr × List (Int × Int)} (hh : t.hs[l]? = some h) {kv : List (Int × Int)} (lk : kv.length <= n0) : TrOk C (upd H h.1 (.dK (kvV kv))) (t.setH l kv) rooms tr tm ps n0 := by
 have hl : l < t.hs.length := (zB.mp hh).1
 have eh : t.hs[l] = h := (zB.mp hh).2
 have hm := zD hh
 have hd := k.at_.hols h hm
 have e : (t.setH l kv) = { t with hs := t.hs.set l (h.1, kv) } := by unfold Tr.setH; rw [hh]
 rw [e]
 have em : (t.hs.set l (h.1, kv)).map (·.1) = t.hs.map (·.1) := by
  rw [ye]
  refine List.ext_getElem (by simp) fun i h1 h2 => ?_
  rw [List.getElem_set]
  split
  ·rename_i z; subst z; simp [eh]
  ·rfl
 have nL : ∀ {c : Addr} {o : HO}, H c = some o -> (∀ z, o ≠ .dK z) -> upd H h.1 (.dK (kvV kv)) c = some o := fun {c o} e n => by rw [yy (xU e hd (by intro z; exact n _ z))]; exact e
 have tu : Tups H (upd H h.1 (.dK (kvV kv))) := Tups.setD hd
 refine ⟨⟨nL k.at_.ins (by intro _ z; cases z), nL k.at_.lts (by intro _ z; cases z), fun l hl => tu _ _ (k.at_.rows l hl), ?_, fun g hg => ?_, nL k.at_.arr (by intro _ z; cases z), nL k.at_.pas (by intro _ z; cases z), nL k.at_.dee (by intro _ z; cases z)⟩, k.bk.tups tu, k.gd, k.rm, by rw [zj]; exact k.lh, k.lo, k.ln, k.few, fun g hg => ?_, k.dn, k.nd, by rw [em]; exact k.hnd⟩
 ·have := nL k.at_.hol (by intro _ z; cases z)
  rw [this]
  congr 2
  have := congrArg (List.map V.ref) em
  rw [zo, zo] at this
  exact this.symm
 ·obtain ⟨j, hj⟩ := List.mem_iff_getElem?.mp hg
  rw [yF] at hj
  by_cases c : l = j
  ·subst c
   rw [if_pos rfl, if_pos hl] at hj
   cases hj
   exact yn
  ·rw [if_neg c] at hj
   have hj' : j < t.hs.length := (zB.mp hj).1
   have eg : t.hs[j] = g := (zB.mp hj).2
   have ne : g.1 ≠ h.1 := fun z => by
    have := yC.mp k.hnd
    have l1 : l < (t.hs.map (·.1)).length := by rw [zA]; exact hl
    have l2 : j < (t.hs.map (·.1)).length := by rw [zA]; exact hj'
    rcases Nat.lt_or_gt_of_ne c with cc | cc
    ·exact this l j l1 l2 cc (by rw [zt, zt, eh, eg]; exact z.symm)
    ·exact this j l l2 l1 cc (by rw [zt, zt, eh, eg]; exact z)
   rw [yy ne]
   exact k.at_.hols g (zD hj)
 ·rcases List.mem_or_eq_of_mem_set hg with h1 | h1
  ·exact k.sh g h1
  ·rw [h1]; exact lk
theorem TrOk.hkeep (k : TrOk C H t rooms tr tm ps n0) {l : Nat} {h : Addr × List (Int × Int)} (hh : t.hs[l]? = some h) {o : HO} : Keeps t H (upd H h.1 o) := fun c u n e => by
 rw [yy fun z => n (.inr (.inr (.inr (.inr (by rw [z]; exact zQ.mpr ⟨h, zD hh, rfl⟩)))))]; exact e
theorem TrOk.pset (k : TrOk C H t rooms tr tm ps n0) {ns : List Int} (ln : ns.length = ps.length) : TrOk C (upd H t.lP (.lst (ns.map V.int))) { t with ns := ns } rooms tr tm ps n0 := by
 obtain ⟨n1, n2, n3, n4, n5, n6, n7, n8, n9⟩ := k.nd
 have tu : Tups H (upd H t.lP (.lst (ns.map V.int))) := Tups.set k.at_.pas
 have nL : ∀ {c : Addr} {o : HO}, H c = some o -> (∀ z, o ≠ .lst z) -> upd H t.lP (.lst (ns.map V.int)) c = some o := fun {c o} e n => by rw [yy (xU e k.at_.pas (by intro z; exact n _ z))]; exact e
 exact ⟨⟨nL k.at_.ins (by intro _ z; cases z), by rw [yy n2]; exact k.at_.lts, fun l hl => tu _ _ (k.at_.rows l hl), by rw [yy n5]; exact k.at_.hol, fun h hh => nL (k.at_.hols h hh) (by intro _ z; cases z), by rw [yy n7]; exact k.at_.arr, yn, by rw [yy n9.symm]; exact k.at_.dee⟩, k.bk.tups tu, k.gd, k.rm, k.lh, k.lo, ln, k.few, k.sh, k.dn, k.nd, k.hnd⟩
theorem TrOk.dset (k : TrOk C H t rooms tr tm ps n0) {y : V} (dn : t.ds.length < n0) : TrOk C (upd H t.lD (.lst (t.ds ++ [y]))) { t with ds := t.ds ++ [y] } rooms tr tm ps n0 := by
 obtain ⟨n1, n2, n3, n4, n5, n6, n7, n8, n9⟩ := k.nd
 have tu : Tups H (upd H t.lD (.lst (t.ds ++ [y]))) := Tups.set k.at_.dee
 have nL : ∀ {c : Addr} {o : HO}, H c = some o -> (∀ z, o ≠ .lst z) -> upd H t.lD (.lst (t.ds ++ [y])) c = some o := fun {c o} e n => by rw [yy (xU e k.at_.dee (by intro z; exact n _ z))]; exact e
 exact ⟨⟨nL k.at_.ins (by intro _ z; cases z), by rw [yy n3]; exact k.at_.lts, fun l hl => tu _ _ (k.at_.rows l hl), by rw [yy n6]; exact k.at_.hol, fun h hh => nL (k.at_.hols h hh) (by intro _ z; cases z), by rw [yy n8]; exact k.at_.arr, by rw [yy n9]; exact k.at_.pas, yn⟩, k.bk.tups tu, k.gd, k.rm, k.lh, k.lo, k.ln, k.few, k.sh, by show (t.ds ++ [y]).length <= n0; rw [zT]; exact dn, k.nd, k.hnd⟩
theorem TrOk.aset (k : TrOk C H t rooms tr tm ps n0) {os : List (Option Int)} (lo : os.length = t.ls.length) (b : But t.lA H H') (h : H' t.lA = some (.lst (os.map oV))) : TrOk C H' { t with os := os } rooms tr tm ps n0 := by
 obtain ⟨n1, n2, n3, n4, n5, n6, n7, n8, n9⟩ := k.nd
 have nL : ∀ {c : Addr} {o : HO}, H c = some o -> (∀ z, o ≠ .lst z) -> H' c = some o := fun {c o} e n => b _ _ (xU e k.at_.arr (by intro z; exact n _ z)) e
 have tu : Tups H H' := fun c xs e => nL e (by intro _ z; cases z)
 exact ⟨⟨nL k.at_.ins (by intro _ z; cases z), b _ _ n1 k.at_.lts, fun l hl => tu _ _ (k.at_.rows l hl), b _ _ n4 k.at_.hol, fun h hh => nL (k.at_.hols h hh) (by intro _ z; cases z), h, b _ _ n7.symm k.at_.pas, b _ _ n8.symm k.at_.dee⟩, k.bk.tups tu, k.gd, k.rm, k.lh, lo, k.ln, k.few, k.sh, k.dn, k.nd, k.hnd⟩
theorem TrOk.rset (k : TrOk C H t rooms tr tm ps n0) {r : Int} : TrOk C (upd H t.x (.ins C t.dx [("book", .ref t.b), ("letters", .ref t.lL), ("holders", .ref t.lH), ("arrivals", .ref t.lA), ("passed", .ref t.lP), ("reached", .int r), ("deeds", .ref t.lD)])) { t with r := r } rooms tr tm ps n0 := by
 have nL : ∀ {c : Addr} {o : HO}, H c = some o -> (∀ a b z, o ≠ .ins a b z) -> upd H t.x (.ins C t.dx [("book", .ref t.b), ("letters", .ref t.lL), ("holders", .ref t.lH), ("arrivals", .ref t.lA), ("passed", .ref t.lP), ("reached", .int r), ("deeds", .ref t.lD)]) c = some o := fun {c o} e n => by rw [yy (xU e k.at_.ins (by intro z; exact n _ _ _ z))]; exact e
 have tu : Tups H (upd H t.x (.ins C t.dx [("book", .ref t.b), ("letters", .ref t.lL), ("holders", .ref t.lH), ("arrivals", .ref t.lA), ("passed", .ref t.lP), ("reached", .int r), ("deeds", .ref t.lD)])) := fun c xs e => nL e (by intro _ _ _ z; cases z)
 exact ⟨⟨yn, nL k.at_.lts (by intro _ _ _ z; cases z), fun l hl => tu _ _ (k.at_.rows l hl), nL k.at_.hol (by intro _ _ _ z; cases z), fun h hh => nL (k.at_.hols h hh) (by intro _ _ _ z; cases z), nL k.at_.arr (by intro _ _ _ z; cases z), nL k.at_.pas (by intro _ _ _ z; cases z), nL k.at_.dee (by intro _ _ _ z; cases z)⟩, k.bk.tups tu, k.gd, k.rm, k.lh, k.lo, k.ln, k.few, k.sh, k.dn, k.nd, k.hnd⟩
end
theorem TrOk.mono {C : Addr} {H : Hp} {t : Tr} {rooms : List Int} {tr tm : Addr} {ps : List (Addr × M4)} {n0 n1 : Nat} (k : TrOk C H t rooms tr tm ps n0) (l : n0 <= n1) : TrOk C H t rooms tr tm ps n1 :=
 ⟨k.at_, k.bk, k.gd, k.rm, k.lh, k.lo, k.ln, k.few, fun h hh => ze (k.sh h hh) l, ze k.dn l, k.nd, k.hnd⟩
theorem Keeps.put {t : Tr} {H : Hp} {c : Addr} {o : HO} (h : t.own c) : Keeps t H (upd H c o) := fun a u n e => by
 rw [yy fun z => n (by rw [z]; exact h)]; exact e
theorem Keeps.but {t : Tr} {H H' : Hp} {c : Addr} (h : t.own c) (b : But c H H') : Keeps t H H' := fun a u n e => b a u (fun z => n (by rw [z]; exact h)) e
def spNeedL (C : Addr) (X : XC) : Sp := fun vs H Q E => ∃ t l rooms tr tm ps n0, vs = [.ref t.x, .int l] /\ TrOk C H t rooms tr tm ps n0 /\ (0 <= l /\ l < t.ls.length -> Q .non H) /\ (¬ (0 <= l /\ l < t.ls.length) -> E (.ref X.lett) none H)
def spNeedD (C : Addr) (X : XC) : Sp := fun vs H Q E => ∃ t l w rooms tr tm ps n0, vs = [.ref t.x, .int l, .int w] /\ TrOk C H t rooms tr tm ps n0 /\ (codeD rooms t l w = 8 -> Q .non H) /\ (codeD rooms t l w ≠ 8 -> E (.ref (X.of (codeD rooms t l w))) none H)
def spNeedP (C : Addr) (X : XC) : Sp := fun vs H Q E => ∃ t m l g rooms tr tm ps n0, vs = [.ref t.x, .int m, .int l, .int g] /\ TrOk C H t rooms tr tm ps n0 /\ (codeP rooms (ps.map (·.2)) t m l g = 8 -> ∀ H', Same H H' -> Q .non H') /\ (codeP rooms (ps.map (·.2)) t m l g ≠ 8 -> ∀ H', Same H H' -> E (.ref (X.of (codeP rooms (ps.map (·.2)) t m l g))) none H')
def spPassOn (C : Addr) : Sp := fun vs H Q _ => ∃ t, ∃ m l : Nat, ∃ g M L rooms tr tm ps n0, vs = [.ref t.x, .int (m : Int), .int (l : Int), .int g] /\ TrOk C H t rooms tr tm ps n0 /\ (ps.map (·.2))[m]? = some M /\ t.ls[l]? = some L /\ (g = M.lo \/ g = M.hi) /\ n0 < 200 /\
 ∀ H', Keeps t H H' -> TrOk C H' (t.passed m l M L.2 (othI M g)) rooms tr tm ps (n0 + 1) -> Q .non H'
theorem noteA_len {os : List (Option Int)} {n : Nat} {l : L4} {w t : Int} : (noteA os n l w t).length = os.length := by
 unfold noteA
 split
 ·rw [zj]
 ·rfl
def Dd.isP : Dd -> Bool
 | .pass _ _ _ _ => true
 | .drop _ _ => false
def spAreW : Sp := fun vs H Q _ => ∃ a ns, vs = [.ref a] /\ H a = some (.tup (List.map V.int ns)) /\ ns.length <= 10 /\ ∀ H', Same H H' -> Q (.bl true) H'
def spIsPass : Sp := fun vs H Q _ => ∃ y, vs = [y] /\ ((∃ d, DeedAt H y d /\ ∀ H', Same H H' -> Q (.bl d.isP) H') \/ ∃ a xs, y = .ref a /\ H a = some (.lst xs) /\ Q (.bl false) H)
def spIsDrop : Sp := fun vs H Q _ => ∃ y, vs = [y] /\ ((∃ l w, DeedAt H y (.drop l w) /\ ∀ H', Same H H' -> Q (.bl true) H') \/ ∃ a xs, y = .ref a /\ H a = some (.lst xs) /\ Q (.bl false) H)
def spDo (C : Addr) (X : XC) : Sp := fun vs H Q E => ∃ t y rooms tr tm ps n0, vs = [.ref t.x, y] /\ TrOk C H t rooms tr tm ps n0 /\ n0 < 200 /\ ((∃ d, DeedAt H y d /\ (codeT rooms (ps.map (·.2)) t d = 8 -> ∀ H', Keeps t H H' -> TrOk C H' (t.doneT (ps.map (·.2)) y d) rooms tr tm ps (n0 + 1) -> Q .non H') /\ (codeT rooms (ps.map (·.2)) t d ≠ 8 -> ∀ H', Same H H' -> E (.ref (X.of (codeT rooms (ps.map (·.2)) t d))) none H')) \/
 ∃ a xs, y = .ref a /\ H a = some (.lst xs) /\ E (.ref X.deed) none H)
theorem codeP_at {rooms : List Int} {ms : List M4} {t : Tr} {m l : Nat} {g n : Int} {M : M4} {L : Addr × L4} {h : Addr × List (Int × Int)} (hr : t.r <= m) (hM : ms[m]? = some M) (hL : t.ls[l]? = some L) (hh : t.hs[l]? = some h) (hn : t.ns[m]? = some n) :
  codeP rooms ms t m l g = codeP2 rooms M L.2 h.2 n (bagTo (othI M g) t.ls t.hs t.hs.length).length g := by
 have h1 : m < ms.length := (zB.mp hM).1
 have h2 : l < t.ls.length := (zB.mp hL).1
 unfold codeP
 rw [if_pos ⟨by omega, by omega, hr⟩, if_pos ⟨by omega, by omega⟩, zF, zF, hM, hL, hh, hn]
 rfl
theorem codeP8 {rooms : List Int} {ms : List M4} {t : Tr} {m l g : Int} (lh : t.hs.length = t.ls.length) (e : codeP rooms ms t m l g = 8) : ∃ (m' l' : Nat) (M : M4) (L : Addr × L4) (h : Addr × List (Int × Int)), m = m' /\ l = l' /\ ms[m']? = some M /\ t.ls[l']? = some L /\ t.hs[l']? = some h /\ t.r <= m /\ (g = M.lo \/ g = M.hi) /\ below (kvget h.2 g) M.t = true /\ (kvget h.2 (othI M g)).isSome = false /\ codeP2 rooms M L.2 h.2 (t.ns[m']?.getD 0) (bagTo (othI M g) t.ls t.hs t.hs.length).length g = 8 := by
 unfold codeP at e
 split at e
 ·rename_i c1
  split at e
  ·rename_i c2
   obtain ⟨m', rfl⟩ := zO c1.1
   obtain ⟨l', rfl⟩ := zO c2.1
   rw [zF, zF] at e
   have h1 : ms[m']? = some (ms[m']'(by omega)) := zE _
   have h2 : t.ls[l']? = some (t.ls[l']'(by omega)) := zE _
   have h3 : t.hs[l']? = some (t.hs[l']'(by omega)) := zE _
   rw [h1, h2, h3] at e
   refine ⟨m', l', _, _, _, rfl, rfl, h1, h2, h3, c1.2.2, ?_⟩
   have e' := e
   dsimp only at e
   unfold codeP2 at e
   split at e
   ·rename_i c3
    split at e
    ·rename_i c4
     split at e
     ·cases e
     ·rename_i c5
      exact ⟨c3, c4, Bool.not_eq_true _ ▸ c5, e'⟩
    ·cases e
   ·cases e
  ·cases e
 ·cases e
theorem othI_in {w : Int} {ms : List M4} {M : M4} {m : Nat} {g : Int} (gd : Good w ms) (hM : ms[m]? = some M) : 0 <= othI M g /\ othI M g < w := by
 obtain ⟨h1, h2, h3, _⟩ := gd.each M (zD hM)
 unfold othI
 split <;> omega
theorem codeD8 {rooms : List Int} {t : Tr} {l w : Int} (e : codeD rooms t l w = 8) : ∃ (l' : Nat) (h : Addr × List (Int × Int)), l = l' /\ l' < t.ls.length /\ t.hs[l']? = some h /\ (kvget h.2 w).isSome = true /\ 0 <= w /\ w < rooms.length := by
 unfold codeD at e
 split at e
 ·rename_i c1
  obtain ⟨l', rfl⟩ := zO c1.1
  split at e
  ·rename_i c2
   rw [zF] at e
   cases hh : t.hs[l']? with
   | none => rw [hh] at e; cases e
   | some h =>
    rw [hh] at e
    dsimp only at e
    split at e
    ·rename_i c3; exact ⟨l', h, rfl, by omega, hh, c3, c2.1, c2.2⟩
    ·cases e
  ·cases e
 ·cases e
theorem kvget_put {kv : List (Int × Int)} {o t g : Int} : kvget (kvput kv o t) g = if g = o then some t else kvget kv g := by
 have h := valV_put (kvV kv) (Sum.inl o : Key) (Sum.inl g) (V.int t)
 rw [putK_kv, xx, xx] at h
 by_cases c : g = o
 ·rw [if_pos (congrArg Sum.inl c)] at h
  rw [if_pos c]
  cases e : kvget (kvput kv o t) g with
  | none => rw [e] at h; cases h
  | some y => rw [e] at h; cases h; rfl
 ·rw [if_neg fun z => c (Sum.inl.inj z)] at h
  rw [if_neg c]
  cases e : kvget (kvput kv o t) g with
  | none =>
   cases e2 : kvget kv g with
   | none => rfl
   | some y => rw [e, e2] at h; cases h
  | some y =>
   cases e2 : kvget kv g with
   | none => rw [e, e2] at h; cases h
   | some z => rw [e, e2] at h; cases h; rfl
theorem below_some {o : Option Int} {t : Int} (h : below o t = true) : o.isSome = true := by
 cases o with
 | none => cases h
 | some _ => rfl
theorem passed_kv {C : Addr} {H : Hp} {t : Tr} {rooms : List Int} {tr tm : Addr} {ps : List (Addr × M4)} {n0 m l : Nat} {M : M4} {L : L4} {o : Int} {h : Addr × List (Int × Int)} (hh : t.hs[l]? = some h) : (t.passed m l M L o).hs[l]? = some (h.1, kvput h.2 o M.t) /\ (t.passed m l M L o).kv l = kvput h.2 o M.t := by
 have hl : l < t.hs.length := (zB.mp hh).1
 have e1 : (t.passed m l M L o).hs[l]? = some (h.1, kvput h.2 o M.t) := by
  show (match t.hs[l]? with | some h => t.hs.set l (h.1, kvput (t.kv l) o M.t) | none => t.hs)[l]? = _
  have ek : t.kv l = h.2 := by unfold Tr.kv; rw [hh]
  rw [hh, ek]
  exact List.getElem?_set_self hl
 refine ⟨e1, ?_⟩
 unfold Tr.kv
 rw [e1]
theorem But.free {x c : Addr} {H H' : Hp} (b : But x H H') (n : c ≠ x) (h : H' c = none) : H c = none := by
 cases z : H c with
 | none => rfl
 | some u => have := b _ _ n z; rw [h] at this; cases this
structure New (H : Hp) (x b : Addr) (ls : List (Addr × L4)) (m : Nat) (t : Tr) : Prop where
 ex : t.x = x
 eb : t.b = b
 el : t.ls = ls
 eh : t.hs.map (·.2) = ls.map fun l => [((l.2.s : Int), l.2.a)]
 eo : t.os = ls.map fun l => begA l.2
 en : t.ns = List.replicate m 0
 er : t.r = 0
 ed : t.ds = []
 fr : ∀ c, t.own c \/ c = t.lL \/ c = t.lH -> c = x \/ H c = none
def spInit2 (C : Addr) : Sp := fun vs H Q _ => ∃ x dx b l0 ls rooms tr tm ps, vs = [.ref x, .ref b, .ref l0] /\ H x = some (.ins C dx []) /\ BookAt H b rooms tr tm ps /\ Good rooms.length (ps.map (·.2)) /\ rooms.length <= 12 /\ H l0 = some (.lst (ls.map fun l => V.ref l.1)) /\ (∀ l ∈ ls, H l.1 = some (.tup (letRow l.2))) /\ ls.length <= 41 /\
 ∀ t H', But x H H' -> TrOk C H' t rooms tr tm ps 1 -> New H x b ls ps.length t -> Q .non H'
end Sm
set_option Elab.async false
set_option linter.all false
set_option maxRecDepth 100000
set_option maxHeartbeats 400000
namespace L2
open PySem PySem.Spec PyProof.Rows PySem.W SmSort
theorem vals_of_get : ∀ {xs : List V} {us : List Value}, xs.length = us.length -> (∀ (i : Nat) x u, xs[i]? = some x -> us[i]? = some u -> RelV x u) -> Vals xs us
 | [], [], _, _ => .nil
 | x :: xs, u :: us, h, r => .cons (r 0 x u rfl rfl) (vals_of_get (by simpa using h) fun i y v a b => r (i + 1) y v a b)
section
variable {X : Cx}
theorem call_sortD (hc : X.calm = true) : CallR X (.builtin "sorted") (fun xs H Q => ∃ d, ∃ kv : List (Int × Int), xs = [.ref d] /\ H d = some (.dK (kv.map fun p => (Sum.inl p.1, V.int p.2))) /\ kv.length < 64 /\
  ∀ l ms, H l = none -> List.Perm ms (kv.map (·.1)) -> ms.Pairwise (· <= ·) -> Q (.ref l) (upd H l (.lst (ms.map V.int)))) := by
 intro pins s σ H xs us Q I r h
 obtain ⟨d, kv, rfl, hd, h64, q⟩ := h
 obtain ⟨u, rfl, rx⟩ := vals1 r
 cases rx
 have line : 1002 <= sizeLine := by rw [sizeLine_eq]; decide
 obtain ⟨_, hS, vs, rv, m⟩ := dk_of I.hok hd
 have lv : vs.length = kv.length := by have := Paired.length rv; rw [zA] at this; omega
 obtain ⟨od, es, ep, ho, hx, hdat, hk, hp, hnd⟩ := m
 refine Calls.call_function_entry kind_sorted plain_sorted entry_sorted (args_sorted1 _) ?_
 unfold Builtin.«sorted»
 refine wpAny_bind (m := checkCount "sorted" 1 1 _) (wpAny_pure ?_)
 refine wpAny_bind (kdu_collect (kdl_dict (knd := mixKind X.prog X.w) (kvs := vs) (ep := ep) hS) (I.ok.hd hc) ⟨od, es, ho, hx, hdat, hk, hp, hnd⟩ (by omega) fun h1 tk acc hk1 hacc => ?_)
 have la : acc.toList.length = kv.length := by rw [Array.length_toList, hacc.1, lv]
 have hI : IntsAre acc.toList (kv.map (·.1)) := intsAre_of (vals_of_get (by rw [zA, zA, la]) fun i x u hx hu => by
  obtain ⟨y, hy, rfl⟩ : ∃ y, (kv.map (·.1))[i]? = some y /\ V.int y = x := by
   rw [zC] at hx
   cases e : (kv.map (·.1))[i]? with
   | none => rw [e] at hx; cases hx
   | some y => rw [e] at hx; exact ⟨y, rfl, Option.some.inj hx⟩
  obtain ⟨k, z, g1, g2⟩ := hacc.2 i u (by rw [<- Array.getElem?_toList]; exact hu)
  obtain ⟨w, t, w1, w2, w3⟩ := kv_get rv g1
  rw [zC, w1] at hy
  have e3 : w.1 = y := Option.some.inj hy
  rcases xT g2 with ⟨i, t', f1, f2⟩ | ⟨i, t', f1, f2⟩
  ·rw [f1] at w2
   cases w2
   exact ⟨t', by rw [f2, e3]⟩
  ·rw [f1] at w2; cases w2)
 refine wpAny_bind (wpAny_newList ?_ (by rw [la]; omega))
 have hL : (h1.push (seqObj "list" acc.toList.toArray 0)).get? h1.objs.size = some (seqObj "list" acc.toList.toArray 0) := Heap.get?_push_size _ rfl
 dsimp only
 refine wpAny_bind (wpAny_holding (wpAny_call_entry slot_list_sort ⟨_, hL, rfl⟩ entry_list_sort (list_sort_tree hL hI (by omega) fun out ms a1 a2 a3 => ⟨_, rfl, ?_⟩) (args_list_sort _)))
 refine wpAny_pure ⟨_, rfl, ?_⟩
 have I1 := I.kept (h' := h1) (t' := tk) hk1
 have kp : ∀ b o, h1.get? b = some o -> (sortedHeap (h1.push (seqObj "list" acc.toList.toArray 0)) h1.objs.size acc.toList out).get? b = some o := fun b o e => by
  have lb : b < h1.objs.size := Heap.lt_size e
  unfold sortedHeap
  rw [Heap.get?_update_ne _ _ _ _ (zV lb)]
  refine Heap.get?_push_of_some _ (Heap.get?_push_of_some _ ?_)
  rw [Heap.get?_update_ne _ _ _ _ (zV lb)]
  exact Heap.get?_push_of_some _ e
 obtain ⟨c, ec⟩ : ∃ c, (sortedHeap (h1.push (seqObj "list" acc.toList.toArray 0)) h1.objs.size acc.toList out).get? h1.objs.size = some (seqObj "list" out c) := by
  unfold sortedHeap
  have e1 := get?_update_seq hL (fun _ => (#[] : Array Value))
  exact ⟨_, get?_update_seq (Heap.get?_push_of_some _ (Heap.get?_push_of_some _ e1)) _⟩
 have lm : ms.length = kv.length := by rw [a2.length_eq, zA]
 have rv2 : Vals (ms.map V.int) out.toList := vals_ints a1
 exact ⟨.ref h1.objs.size, _, I1.laid (t' := tk) kp (zG _) (show ObjOk X.prog X.w _ _ _ (.lst (ms.map V.int)) from ⟨by rw [zA]; omega, out.toList, c, rv2, by rw [Array.toArray_toList]; exact ec⟩), rfl, q _ ms (I1.hok.fresh (zG _)) a2 a3⟩
end
end L2
set_option Elab.async false
set_option linter.all false
set_option maxRecDepth 100000
set_option maxHeartbeats 400000
namespace L2
open PySem PySem.Spec PyProof.Rows
section
variable {X : Cx}
theorem mt_dpop : MtR X "dict.pop" (fun x xs H Q => ∃ a kvs k v, x = .ref a /\ xs = [kV k] /\ H a = some (.dK kvs) /\ valV kvs k = some v /\ Q v (upd H a (.dK (dropK kvs k)))) := by
 intro pins s σ H x xs v us Q I rx rs h
 obtain ⟨a, kvs, k, y, rfl, rfl, e, l, q⟩ := h
 cases rx
 obtain ⟨u, rfl, ru⟩ := vals1 rs
 exact d_pop I e ru l (.inl rfl) fun w' s' I' r' => ⟨_, _, I', r', q⟩
end
end L2
namespace Sm
open PySem L2 SmSort
def xcB (K : PySem.W.Frag) (X : XC) (me : Addr) (oth : List Addr) : Bool := (List.range 8).all fun n =>
 (PySem.W.exmOne K (.ref (X.of n)) (.ref me) == some true) && (yQ K (.ref (X.of n)) (.type "ValueError") == some true) && (PySem.W.kitAny K (.ref (X.of n)) (oth.map Value.ref) == some false) && xclsB K (X.of n) && (List.range 8).all fun j => yQ K (.ref (X.of n)) (.ref (X.of j)) == some (n == j)
theorem xcB.at {K : PySem.W.Frag} {X : XC} {me : Addr} {oth : List Addr} (h : xcB K X me oth = true) {n : Nat} (hn : n < 8) : PySem.W.exmOne K (.ref (X.of n)) (.ref me) = some true /\ yQ K (.ref (X.of n)) (.type "ValueError") = some true /\ PySem.W.kitAny K (.ref (X.of n)) (oth.map Value.ref) = some false /\ XCls K (X.of n) /\ ∀ j, j < 8 -> yQ K (.ref (X.of n)) (.ref (X.of j)) = some (n == j) := by
 have h1 := yR.mp h n (zp.mpr hn)
 simp only [zr] at h1
 obtain ⟨⟨⟨⟨a, b⟩, c⟩, d⟩, e⟩ := h1
 exact ⟨eq_of_beq a, eq_of_beq b, eq_of_beq c, XCls.of d, fun j hj => eq_of_beq (yR.mp e j (zp.mpr hj))⟩
def kindsL (n : Nat) : List V := [.bl (n == 0), .bl (n == 1), .bl (n == 2), .bl (n == 3), .bl (n == 4), .bl (n == 5), .bl (n == 6), .bl (n == 7)]
theorem kinds_count : ∀ n, n < 8 -> (kindsL n).countP (fun u => decide (u = V.bl true)) = 1 := by decide
theorem kinds_at : ∀ n, n < 8 -> (kindsL n)[n]? = some (V.bl true) := by decide
theorem kinds_no : ∀ n, n < 8 -> ∀ m, m < n -> (kindsL n)[m]? = some (V.bl false) := by decide
theorem kinds_eqv {K : PySem.W.Frag} {H : Hp} {n : Nat} : ∀ u ∈ kindsL n, Eqv K H 0 u (.bl true) (decide (u = V.bl true)) := fun u hu => by
 obtain ⟨b, rfl⟩ : ∃ b, u = V.bl b := by
  unfold kindsL at hu
  simp only [zR, List.not_mem_nil, or_false] at hu
  rcases hu with rfl | rfl | rfl | rfl | rfl | rfl | rfl | rfl <;> exact ⟨_, rfl⟩
 exact .inr ⟨rfl, rfl, by cases b <;> rfl⟩
theorem codeT_lt {rooms : List Int} {ms : List M4} {t : Tr} {d : Dd} (h : codeT rooms ms t d ≠ 8) : codeT rooms ms t d < 8 := by
 have p2 : ∀ {rooms M L kv n bag g}, codeP2 rooms M L kv n bag g <= 8 := by
  intro rooms M L kv n bag g
  unfold codeP2
  split
  ·split
   ·split
    ·decide
    ·split
     ·decide
     ·split <;> decide
   ·decide
  ·decide
 have : codeT rooms ms t d <= 8 := by
  cases d with
  | pass gv m l g =>
   show codeP rooms ms t m l g <= 8
   unfold codeP
   split
   ·split
    ·split
     ·exact p2
     ·decide
    ·decide
   ·decide
  | drop l w =>
   show codeD rooms t l w <= 8
   unfold codeD
   split
   ·split
    ·split
     ·split <;> decide
     ·decide
    ·decide
   ·decide
 omega
def spDoes (C : Addr) : Sp := fun vs H Q _ => ∃ t y rooms tr tm ps n0, vs = [.ref t.x, y] /\ TrOk C H t rooms tr tm ps n0 /\ n0 < 200 /\ ((∃ d, DeedAt H y d /\ (codeT rooms (ps.map (·.2)) t d = 8 -> ∀ H', Keeps t H H' -> TrOk C H' (t.doneT (ps.map (·.2)) y d) rooms tr tm ps (n0 + 1) -> Q (.int 8) H') /\ (codeT rooms (ps.map (·.2)) t d ≠ 8 -> ∀ H', Same H H' -> Q (.int (codeT rooms (ps.map (·.2)) t d : Nat)) H')) \/
 ∃ a xs, y = .ref a /\ H a = some (.lst xs) /\ ∀ H', Same H H' -> Q (.int 0) H')
def spAny : Sp := fun vs H Q _ => ∃ p n, vs = [.ref p, .int n] /\ 0 <= n /\ n <= 1000 /\ Purse H p /\ ∀ z H', Go p H H' -> Q (.int z) H'
def spWild : Sp := fun vs H Q _ => ∃ p b n rooms tr tm ps, vs = [.ref p, .ref b, .int n] /\ 0 <= n /\ n <= 1000 /\ BookAt H b rooms tr tm ps /\ rooms.length <= 12 /\ ps.length <= 60 /\ Purse H p /\ ∀ y d H', Go p H H' -> DeedAt H' y d -> Q y H'
def HoldAt (H : Hp) (l : Addr) (gs : List (Addr × List (Int × Int))) : Prop := H l = some (.lst (gs.map fun g => V.ref g.1)) /\ ∀ g ∈ gs, H g.1 = some (.dK (kvV g.2))
def spLikely : Sp := fun vs H Q _ => ∃ p b l, ∃ a : Nat, ∃ gs rooms tr tm ps, vs = [.ref p, .ref b, .ref l, .int (a : Int)] /\ BookAt H b rooms tr tm ps /\ 1 <= rooms.length /\ rooms.length <= 12 /\ Good rooms.length (ps.map (·.2)) /\ a <= ps.length /\ HoldAt H l gs /\ l ≠ p /\ gs.length <= 41 /\ (∀ g ∈ gs, g.2.length < 64) /\ Purse H p /\ ∀ y d H', Go p H H' -> DeedAt H' y d -> Q y H'
def kvNext (ms : List M4) (kv : List (Int × Int)) : Dd -> List (Int × Int)
 | .drop _ w => kvdel kv w
 | .pass gv m _ g => match ms[m.toNat]? with
  | some M => if gv = true then kvdel (kvput kv (othI M g) M.t) g else kvput kv (othI M g) M.t
  | none => kv
def Dd.let : Dd -> Int
 | .drop l _ => l
 | .pass _ _ l _ => l
def Dd.ok (ms : List M4) (kv : List (Int × Int)) : Dd -> Prop
 | .drop _ w => (kvget kv w).isSome = true
 | .pass _ m _ w => ∃ (m' : Nat) (M : M4), m = m' /\ ms[m']? = some M /\ (w = M.lo \/ w = M.hi) /\ (kvget kv w).isSome = true
def spNoted : Sp := fun vs H Q _ => ∃ b l y d gs rooms tr tm ps, ∃ n : Nat, ∃ g, vs = [.ref b, .ref l, y] /\ BookAt H b rooms tr tm ps /\ Good rooms.length (ps.map (·.2)) /\ HoldAt H l gs /\ DeedAt H y d /\ d.let = n /\ gs[n]? = some g /\ g.2.length <= 1000 /\
 d.ok (ps.map (·.2)) g.2 /\
 ∀ H', But g.1 H H' -> H' g.1 = some (.dK (kvV (kvNext (ps.map (·.2)) g.2 d))) -> Q .non H'
end Sm
set_option Elab.async false
set_option linter.all false
set_option maxRecDepth 100000
set_option maxHeartbeats 400000
namespace Sm
open PySem L2 SmSort
structure Twin (t u : Tr) : Prop where
 ls : t.ls = u.ls
 hs : t.hs.map (·.2) = u.hs.map (·.2)
 os : t.os = u.os
 ns : t.ns = u.ns
 r : t.r = u.r
theorem Twin.len {t u : Tr} (w : Twin t u) : t.hs.length = u.hs.length := by have := congrArg List.length w.hs; simpa using this
theorem Twin.at {t u : Tr} (w : Twin t u) (l : Nat) : (t.hs[l]?).map (·.2) = (u.hs[l]?).map (·.2) := by
 have := congrArg (·[l]?) w.hs
 simpa only [zC] using this
theorem Twin.bag {t u : Tr} (w : Twin t u) (o : Int) : ∀ n, bagTo o t.ls t.hs n = bagTo o u.ls u.hs n
 | 0 => rfl
 | n + 1 => by
  unfold bagTo
  rw [w.bag o n]
  congr 2
  have := w.at n
  have el : t.ls[n]? = u.ls[n]? := by rw [w.ls]
  unfold inBag
  rw [el]
  cases h1 : t.hs[n]? with
  | none =>
   rw [h1] at this
   cases h2 : u.hs[n]? with
   | none => rfl
   | some b => rw [h2] at this; cases this
  | some a =>
   rw [h1] at this
   cases h2 : u.hs[n]? with
   | none => rw [h2] at this; cases this
   | some b =>
    rw [h2] at this
    have e : a.2 = b.2 := Option.some.inj this
    cases u.ls[n]? with
    | none => rfl
    | some l => dsimp only; rw [e]
theorem Twin.code {t u : Tr} (w : Twin t u) {rooms : List Int} {ms : List M4} (d : Dd) : codeT rooms ms t d = codeT rooms ms u d := by
 cases d with
 | pass gv m l g =>
  show codeP rooms ms t m l g = codeP rooms ms u m l g
  unfold codeP
  rw [w.r, w.ls, w.ns]
  have := w.at l.toNat
  cases h1 : t.hs[l.toNat]? with
  | none =>
   rw [h1] at this
   cases h2 : u.hs[l.toNat]? with
   | none => cases ms[m.toNat]? <;> cases u.ls[l.toNat]? <;> rfl
   | some b => rw [h2] at this; cases this
  | some a =>
   rw [h1] at this
   cases h2 : u.hs[l.toNat]? with
   | none => rw [h2] at this; cases this
   | some b =>
    rw [h2] at this
    have e : a.2 = b.2 := Option.some.inj this
    have eb : ∀ o, bagTo o u.ls t.hs t.hs.length = bagTo o u.ls u.hs u.hs.length := fun o => by
     have := w.bag o t.hs.length
     rw [w.ls] at this
     rw [this, w.len]
    cases ms[m.toNat]? with
    | none => rfl
    | some M =>
     cases u.ls[l.toNat]? with
     | none => rfl
     | some L => dsimp only; rw [e, eb]
 | drop l v =>
  show codeD rooms t l v = codeD rooms u l v
  unfold codeD
  rw [w.ls]
  have := w.at l.toNat
  cases h1 : t.hs[l.toNat]? with
  | none =>
   rw [h1] at this
   cases h2 : u.hs[l.toNat]? with
   | none => rfl
   | some b => rw [h2] at this; cases this
  | some a =>
   rw [h1] at this
   cases h2 : u.hs[l.toNat]? with
   | none => rw [h2] at this; cases this
   | some b =>
    rw [h2] at this
    have e : a.2 = b.2 := Option.some.inj this
    dsimp only; rw [e]
theorem Twin.kv {t u : Tr} (w : Twin t u) (l : Nat) : t.kv l = u.kv l := by
 have := w.at l
 unfold Tr.kv
 cases h1 : t.hs[l]? with
 | none =>
  rw [h1] at this
  cases h2 : u.hs[l]? with
  | none => rfl
  | some b => rw [h2] at this; cases this
 | some a =>
  rw [h1] at this
  cases h2 : u.hs[l]? with
  | none => rw [h2] at this; cases this
  | some b => rw [h2] at this; exact Option.some.inj this
theorem setH_map (t : Tr) (l : Nat) (kv : List (Int × Int)) : (t.setH l kv).hs.map (·.2) = (t.hs.map (·.2)).set l kv := by
 unfold Tr.setH
 dsimp only
 cases h : t.hs[l]? with
 | none =>
  have : t.hs.length <= l := List.getElem?_eq_none_iff.mp h
  rw [List.set_eq_of_length_le (by rw [zA]; exact this)]
 | some a => rw [ye]
theorem Twin.setH {t u : Tr} (w : Twin t u) (l : Nat) {kv kv' : List (Int × Int)} (e : kv = kv') : Twin (t.setH l kv) (u.setH l kv') :=
 ⟨w.ls, by rw [setH_map, setH_map, w.hs, e], w.os, w.ns, w.r⟩
theorem Twin.passed {t u : Tr} (w : Twin t u) (m l : Nat) (M : M4) (L : L4) (o : Int) : Twin (t.passed m l M L o) (u.passed m l M L o) := by
 have h := w.setH l (kv := kvput (t.kv l) o M.t) (kv' := kvput (u.kv l) o M.t) (by rw [w.kv])
 exact ⟨h.ls, h.hs, by show noteA t.os l L o M.t = noteA u.os l L o M.t; rw [w.os], by show t.ns.set m (t.ns[m]?.getD 0 + 1) = u.ns.set m (u.ns[m]?.getD 0 + 1); rw [w.ns], rfl⟩
theorem Twin.done {t u : Tr} (w : Twin t u) {ms : List M4} {y y' : V} (d : Dd) : Twin (t.doneT ms y d) (u.doneT ms y' d) := by
 cases d with
 | drop l v =>
  have h := w.setH l.toNat (kv := kvdel (t.kv l.toNat) v) (kv' := kvdel (u.kv l.toNat) v) (by rw [w.kv])
  exact ⟨h.ls, h.hs, h.os, h.ns, h.r⟩
 | pass gv m l g =>
  have el : t.ls[l.toNat]? = u.ls[l.toNat]? := by rw [w.ls]
  have key : Twin (match ms[m.toNat]?, t.ls[l.toNat]? with | some M, some L => t.doneP gv m.toNat l.toNat g M L.2 | _, _ => t) (match ms[m.toNat]?, u.ls[l.toNat]? with | some M, some L => u.doneP gv m.toNat l.toNat g M L.2 | _, _ => u) := by
   rw [el]
   cases ms[m.toNat]? with
   | none => exact w
   | some M =>
    cases u.ls[l.toNat]? with
    | none => exact w
    | some L =>
     dsimp only
     have h := w.passed m.toNat l.toNat M L.2 (othI M g)
     unfold Tr.doneP
     cases gv with
     | false => exact h
     | true =>
      rw [if_pos rfl, if_pos rfl]
      exact h.setH l.toNat (by rw [h.kv])
  exact ⟨key.ls, key.hs, key.os, key.ns, key.r⟩
theorem having_same {qs1 qs2 : List (Addr × List Int)} {xs : List (List Int)} (p1 : (qs1.map (·.2)).Perm xs) (w1 : qs1.Pairwise fun a b => lx b.2 a.2 = false) (p2 : (qs2.map (·.2)).Perm xs) (w2 : qs2.Pairwise fun a b => lx b.2 a.2 = false) : qs1.map (·.2) = qs2.map (·.2) :=
 List.Perm.eq_of_pairwise (le := fun a b => lx b a = false) (fun a b _ _ x y => lx_tot y x) (yN.mpr w1) (yN.mpr w2) (p1.trans p2.symm)
theorem ne_rowsL {K : PySem.W.Frag} {H : Hp} {l d : Addr} {qs ds : List (Addr × List Int)} {Q : VK} (hl : H l = some (.lst (qs.map fun a => V.ref a.1))) (hq : ∀ a ∈ qs, H a.1 = some (.tup (a.2.map V.int))) (hd : H d = some (.lst (ds.map fun a => V.ref a.1))) (hr : ∀ a ∈ ds, H a.1 = some (.tup (a.2.map V.int)))
  (e : qs.map (·.2) = ds.map (·.2)) (q : Q (.bl false) H) : rEqv K true (.ref l) (.ref d) H Q := by
 have le : qs.length = ds.length := by have := congrArg List.length e; simpa using this
 refine ⟨1, l, d, _, _, fun _ => true, true, by decide, rfl, rfl, .inl ⟨SqL.of hl, SqL.of hd⟩, by simp [le], fun i x y hx hy => ?_, q⟩
 obtain ⟨u, hu, rfl⟩ := xO hx
 obtain ⟨v, hv, rfl⟩ := xO hy
 have ee : u.2 = v.2 := by
  have h1 : (qs.map (·.2))[i]? = some u.2 := by rw [zC, hu]; rfl
  rw [e, zC, hv] at h1
  exact (Option.some.inj h1).symm
 have := Eqv.rows (K := K) (H := H) (n := 0) (f := V.int) (fun _ => rfl) eqV_int (xs := u.2) (ys := v.2) (.inr ⟨hq u (zD hu), hr v (zD hv)⟩)
 rw [decide_eq_true ee] at this
 exact this
theorem ne_intsL {K : PySem.W.Frag} {H : Hp} {l d : Addr} {ns : List Int} {Q : VK} {neg : Bool} (hl : H l = some (.lst (ns.map V.int))) (hd : H d = some (.lst (ns.map V.int))) (q : Q (.bl (if neg = true then !true else true)) H) : rEqv K neg (.ref l) (.ref d) H Q := by
 refine ⟨0, l, d, _, _, fun _ => true, true, by decide, rfl, rfl, .inl ⟨SqL.of hl, SqL.of hd⟩, by simp, fun i x y hx hy => ?_, q⟩
 rw [hx] at hy; cases hy
 obtain ⟨r, hr, rfl⟩ := xO hx
 exact .inr ⟨rfl, rfl, by rw [eqV_int, decide_eq_true rfl]⟩
structure SameAd (t u : Tr) : Prop where
 x : u.x = t.x
 b : u.b = t.b
 lL : u.lL = t.lL
 lH : u.lH = t.lH
 lA : u.lA = t.lA
 lP : u.lP = t.lP
 lD : u.lD = t.lD
 ls : u.ls = t.ls
 hs : u.hs.map (·.1) = t.hs.map (·.1)
theorem SameAd.own {t u : Tr} (s : SameAd t u) (c : Addr) : u.own c ↔ t.own c := by
 unfold Tr.own
 rw [s.x, s.lA, s.lP, s.lD, s.hs]
theorem setH_ad (t : Tr) (l : Nat) (kv : List (Int × Int)) : (t.setH l kv).hs.map (·.1) = t.hs.map (·.1) := by
 unfold Tr.setH
 dsimp only
 cases h : t.hs[l]? with
 | none => rfl
 | some a =>
  dsimp only
  have hl : l < t.hs.length := (zB.mp h).1
  have eh : t.hs[l] = a := (zB.mp h).2
  rw [ye]
  refine List.ext_getElem (by simp) fun i h1 h2 => ?_
  rw [List.getElem_set]
  split
  ·rename_i z; subst z; simp [eh]
  ·rfl
theorem doneT_ad (t : Tr) (ms : List M4) (y : V) (d : Dd) : SameAd t (t.doneT ms y d) := by
 cases d with
 | drop l w => exact ⟨rfl, rfl, rfl, rfl, rfl, rfl, rfl, rfl, setH_ad _ _ _⟩
 | pass gv m l g =>
  have key : SameAd t (match ms[m.toNat]?, t.ls[l.toNat]? with | some M, some L => t.doneP gv m.toNat l.toNat g M L.2 | _, _ => t) := by
   cases ms[m.toNat]? with
   | none => exact ⟨rfl, rfl, rfl, rfl, rfl, rfl, rfl, rfl, rfl⟩
   | some M =>
    cases t.ls[l.toNat]? with
    | none => exact ⟨rfl, rfl, rfl, rfl, rfl, rfl, rfl, rfl, rfl⟩
    | some L =>
     dsimp only
     have e1 : ((t.passed m.toNat l.toNat M L.2 (othI M g)).hs).map (·.1) = t.hs.map (·.1) := setH_ad t _ _
     unfold Tr.doneP
     cases gv with
     | false => exact ⟨rfl, rfl, rfl, rfl, rfl, rfl, rfl, rfl, e1⟩
     | true =>
      rw [if_pos rfl]
      exact ⟨rfl, rfl, rfl, rfl, rfl, rfl, rfl, rfl, (setH_ad _ _ _).trans e1⟩
  exact ⟨key.x, key.b, key.lL, key.lH, key.lA, key.lP, key.lD, key.ls, key.hs⟩
theorem doneT_ds (t : Tr) (ms : List M4) (y : V) (d : Dd) : (t.doneT ms y d).ds = t.ds ++ [y] := rfl
theorem TrOk.there {C : Addr} {H : Hp} {t : Tr} {rooms : List Int} {tr tm : Addr} {ps : List (Addr × M4)} {n0 : Nat} (k : TrOk C H t rooms tr tm ps n0) {c : Addr} (h : t.own c \/ c = t.lL \/ c = t.lH) : ∃ o, H c = some o /\ ∀ xs, o ≠ .tup xs := by
 rcases h with (rfl | rfl | rfl | rfl | h) | rfl | rfl
 ·exact ⟨_, k.at_.ins, by intro _ z; cases z⟩
 ·exact ⟨_, k.at_.arr, by intro _ z; cases z⟩
 ·exact ⟨_, k.at_.pas, by intro _ z; cases z⟩
 ·exact ⟨_, k.at_.dee, by intro _ z; cases z⟩
 ·obtain ⟨g, hg, rfl⟩ := zQ.mp h
  exact ⟨_, k.at_.hols g hg, by intro _ z; cases z⟩
 ·exact ⟨_, k.at_.lts, by intro _ z; cases z⟩
 ·exact ⟨_, k.at_.hol, by intro _ z; cases z⟩
structure Two (C : Addr) (H0 H : Hp) (t u : Tr) (rooms : List Int) (tr tm : Addr) (ps : List (Addr × M4)) (n0 n1 : Nat) : Prop where
 kt : TrOk C H t rooms tr tm ps n0
 ku : TrOk C H u rooms tr tm ps n1
 sm : Same H0 H
 ft : ∀ c, t.own c -> H0 c = none
 fu : ∀ c, u.own c -> H0 c = none
 dt : ∀ c, t.own c -> ¬ (u.own c \/ c = u.lL \/ c = u.lH)
 du : ∀ c, u.own c -> ¬ (t.own c \/ c = t.lL \/ c = t.lH)
section
variable {C : Addr} {H0 H H' : Hp} {t u : Tr} {rooms : List Int} {tr tm : Addr} {ps : List (Addr × M4)} {n0 n1 : Nat}
theorem Keeps.old (kp : Keeps t H H') (sm : Same H0 H) (ft : ∀ c, t.own c -> H0 c = none) : Same H0 H' := fun c o e => kp c o (fun z => by rw [ft c z] at e; cases e) (sm c o e)
theorem Two.swap (w : Two C H0 H t u rooms tr tm ps n0 n1) : Two C H0 H u t rooms tr tm ps n1 n0 := ⟨w.ku, w.kt, w.sm, w.fu, w.ft, w.du, w.dt⟩
theorem Two.same (w : Two C H0 H t u rooms tr tm ps n0 n1) (s : Same H H') : Two C H0 H' t u rooms tr tm ps n0 n1 := ⟨w.kt.same s, w.ku.same s, w.sm.trans s, w.ft, w.fu, w.dt, w.du⟩
theorem Two.doT (w : Two C H0 H t u rooms tr tm ps n0 n1) {t' : Tr} {m0 : Nat} (s : SameAd t t') (kp : Keeps t H H') (k' : TrOk C H' t' rooms tr tm ps m0) : Two C H0 H' t' u rooms tr tm ps m0 n1 := by
 have ad := s.own
 refine ⟨k', w.ku.keep fun c o h e => kp c o (fun z => ?_) e, Keeps.old kp w.sm w.ft, fun c z => w.ft c ((ad c).mp z), w.fu, fun c z => w.dt c ((ad c).mp z), fun c z h => w.du c z ?_⟩
 ·rcases h with h | h | h | ⟨xs, h⟩
  ·exact w.dt c z (.inl h)
  ·exact w.dt c z (.inr (.inl h))
  ·exact w.dt c z (.inr (.inr h))
  ·obtain ⟨o, ho, no⟩ := w.kt.there (.inl z)
   rw [h] at ho; cases ho; exact no _ rfl
 ·rw [s.lL, s.lH] at h
  rcases h with h | h
  ·exact .inl ((ad c).mp h)
  ·exact .inr h
structure Hold (H0 H : Hp) (hl : Addr) (gs : List (Addr × List (Int × Int))) (t u : Tr) : Prop where
 at_ : HoldAt H hl gs
 nd : (gs.map (·.1)).Nodup
 fl : H0 hl = none
 nl : ¬ t.own hl /\ ¬ u.own hl
 fg : ∀ g ∈ gs, H0 g.1 = none /\ ¬ t.own g.1 /\ ¬ u.own g.1
theorem HoldAt.same {hl : Addr} {gs : List (Addr × List (Int × Int))} (h : HoldAt H hl gs) (s : Same H H') : HoldAt H' hl gs := ⟨s _ _ h.1, fun g hg => s _ _ (h.2 g hg)⟩
theorem Hold.same {hl : Addr} {gs : List (Addr × List (Int × Int))} (h : Hold H0 H hl gs t u) (s : Same H H') : Hold H0 H' hl gs t u := ⟨h.at_.same s, h.nd, h.fl, h.nl, h.fg⟩
theorem Hold.put {hl : Addr} {gs : List (Addr × List (Int × Int))} (h : Hold H0 H hl gs t u) {n : Nat} {g : Addr × List (Int × Int)} (hg : gs[n]? = some g) {kv : List (Int × Int)} (b : But g.1 H H') (e : H' g.1 = some (.dK (kvV kv))) : Hold H0 H' hl (gs.set n (g.1, kv)) t u := by
 have hn : n < gs.length := (zB.mp hg).1
 have eg : gs[n] = g := (zB.mp hg).2
 have gm := zD hg
 have em : (gs.set n (g.1, kv)).map (·.1) = gs.map (·.1) := by
  rw [ye]
  refine List.ext_getElem (by simp) fun i h1 h2 => ?_
  rw [List.getElem_set]
  split
  ·rename_i z; subst z; simp [eg]
  ·rfl
 refine ⟨⟨?_, fun f hf => ?_⟩, by rw [em]; exact h.nd, h.fl, h.nl, fun f hf => ?_⟩
 ·have e2 : (gs.set n (g.1, kv)).map (fun g => V.ref g.1) = gs.map fun g => V.ref g.1 := by
   have := congrArg (List.map V.ref) em
   rw [zo, zo] at this
   exact this
  rw [e2]
  exact b _ _ (xU h.at_.1 (h.at_.2 g gm) (by intro z; cases z)) h.at_.1
 ·obtain ⟨j, hj⟩ := List.mem_iff_getElem?.mp hf
  rw [yF] at hj
  by_cases c : n = j
  ·subst c
   rw [if_pos rfl, if_pos hn] at hj
   cases hj; exact e
  ·rw [if_neg c] at hj
   have hj' : j < gs.length := (zB.mp hj).1
   have ef : gs[j] = f := (zB.mp hj).2
   have ne : f.1 ≠ g.1 := fun z => by
    have pw := yC.mp h.nd
    have l1 : n < (gs.map (·.1)).length := by rw [zA]; exact hn
    have l2 : j < (gs.map (·.1)).length := by rw [zA]; exact hj'
    rcases Nat.lt_or_gt_of_ne c with cc | cc
    ·exact pw n j l1 l2 cc (by rw [zt, zt, eg, ef]; exact z.symm)
    ·exact pw j n l2 l1 cc (by rw [zt, zt, eg, ef]; exact z)
   exact b _ _ ne (h.at_.2 f (zD hj))
 ·rcases List.mem_or_eq_of_mem_set hf with h1 | h1
  ·exact h.fg f h1
  ·rw [h1]; exact h.fg g gm
end
theorem doneT_kvs {C : Addr} {H : Hp} {t : Tr} {rooms : List Int} {tr tm : Addr} {ps : List (Addr × M4)} {n0 : Nat} (k : TrOk C H t rooms tr tm ps n0) {d : Dd} (y : V) (c : codeT rooms (ps.map (·.2)) t d = 8) : ∃ (n : Nat) (h : Addr × List (Int × Int)), d.let = n /\ t.hs[n]? = some h /\ (t.doneT (ps.map (·.2)) y d).hs.map (·.2) = (t.hs.map (·.2)).set n (kvNext (ps.map (·.2)) h.2 d) /\
  d.ok (ps.map (·.2)) h.2 := by
 cases d with
 | drop l w =>
  obtain ⟨l', h, rfl, hl, hh, hw, _, _⟩ := codeD8 c
  refine ⟨l', h, rfl, hh, ?_, hw⟩
  show (t.setH ((l' : Int)).toNat (kvdel (t.kv ((l' : Int)).toNat) w)).hs.map (·.2) = _
  rw [zF, setH_map]
  have ek : t.kv l' = h.2 := by unfold Tr.kv; rw [hh]
  rw [ek]; rfl
 | pass gv m l g =>
  obtain ⟨m', l', M, L, h, rfl, rfl, hM, hL, hh, hr', hg, hb, ho, _⟩ := codeP8 k.lh c
  refine ⟨l', h, rfl, hh, ?_, m', M, rfl, hM, hg, below_some hb⟩
  have ek : t.kv l' = h.2 := by unfold Tr.kv; rw [hh]
  have pk := passed_kv (m := m') (M := M) (L := L.2) (o := othI M g) (C := C) (H := H) (rooms := rooms) (tr := tr) (tm := tm) (ps := ps) (n0 := n0) hh
  have e1 : (t.passed m' l' M L.2 (othI M g)).hs.map (·.2) = (t.hs.map (·.2)).set l' (kvput h.2 (othI M g) M.t) := by
   show (t.setH l' (kvput (t.kv l') (othI M g) M.t)).hs.map (·.2) = _
   rw [setH_map, ek]
  have e2 : (t.doneT (ps.map (·.2)) y (.pass gv (m' : Int) (l' : Int) g)).hs = (t.doneP gv m' l' g M L.2).hs := by
   unfold Tr.doneT; dsimp only; rw [zF, zF, hM, hL]
  rw [e2]
  have kn : kvNext (ps.map (·.2)) h.2 (.pass gv (m' : Int) (l' : Int) g) = if gv = true then kvdel (kvput h.2 (othI M g) M.t) g else kvput h.2 (othI M g) M.t := by
   unfold kvNext; dsimp only; rw [zF, hM]
  rw [kn]
  unfold Tr.doneP
  cases gv with
  | false => exact e1
  | true => rw [if_pos rfl, if_pos rfl, setH_map, pk.2, e1, List.set_set]
end Sm
set_option Elab.async false
set_option linter.all false
set_option maxRecDepth 100000
set_option maxHeartbeats 400000
namespace Sm
open PySem L2 SmSort
def newTr (ls : List (Addr × L4)) (m : Nat) : Tr := ⟨0, 0, 0, 0, 0, 0, 0, 0, ls, ls.map fun l => (0, [((l.2.s : Int), l.2.a)]), ls.map fun l => begA l.2, List.replicate m 0, 0, []⟩
theorem New.twin {H : Hp} {x b : Addr} {ls : List (Addr × L4)} {m : Nat} {t : Tr} (n : New H x b ls m t) : Twin t (newTr ls m) :=
 ⟨n.el, by rw [n.eh]; show _ = (ls.map fun l => ((0 : Addr), [((l.2.s : Int), l.2.a)])).map (·.2); rw [zo]; rfl, n.eo, n.en, n.er⟩
end Sm
set_option Elab.async false
set_option linter.all false
set_option maxRecDepth 100000
set_option maxHeartbeats 400000
namespace Sm
open PySem L2 SmSort
def LetsL (H : Hp) (ll : Addr) (ls : List (Addr × L4)) : Prop := H ll = some (.lst (ls.map fun l => V.ref l.1)) /\ ∀ l ∈ ls, H l.1 = some (.tup (letRow l.2))
section
variable {C : Addr} {H0 H H' HB HC : Hp} {t : Tr} {s : Sts} {rooms : List Int} {tr tm : Addr} {ps : List (Addr × M4)} {n0 : Nat}
theorem doneT_pass {gv : Bool} {m l : Nat} {g : Int} {y : V} {ms : List M4} {M : M4} {L : Addr × L4} (hM : ms[m]? = some M) (hL : t.ls[l]? = some L) : (t.doneT ms y (.pass gv (m : Int) (l : Int) g)).os = noteA t.os l L.2 (othI M g) M.t /\ (t.doneT ms y (.pass gv (m : Int) (l : Int) g)).ns = t.ns.set m (t.ns[m]?.getD 0 + 1) /\ (t.doneT ms y (.pass gv (m : Int) (l : Int) g)).r = m := by
 unfold Tr.doneT; dsimp only; rw [zF, zF, hM, hL]
 unfold Tr.doneP
 cases gv <;> exact ⟨rfl, rfl, rfl⟩
end
end Sm
set_option Elab.async false
set_option linter.all false
set_option maxRecDepth 100000
set_option maxHeartbeats 400000
namespace Sm
open PySem L2 SmSort
def runT (ms : List M4) (t : Tr) (ys : List (Addr × Dd)) : Tr := ys.foldl (fun t y => t.doneT ms (.ref y.1) y.2) t
theorem runT_cons {ms : List M4} {t : Tr} {y : Addr × Dd} {ys : List (Addr × Dd)} : runT ms t (y :: ys) = runT ms (t.doneT ms (.ref y.1) y.2) ys := rfl
theorem runT_snoc {ms : List M4} {t : Tr} {ys : List (Addr × Dd)} {y : Addr × Dd} : runT ms t (ys ++ [y]) = (runT ms t ys).doneT ms (.ref y.1) y.2 := by
 unfold runT; rw [List.foldl_append]; rfl
theorem runT_ds {ms : List M4} : ∀ {ys : List (Addr × Dd)} {t : Tr}, (runT ms t ys).ds = t.ds ++ ys.map fun y => V.ref y.1
 | [], t => (zy _).symm
 | y :: ys, t => by rw [runT_cons, runT_ds, doneT_ds, List.append_assoc]; rfl
def RunOk (rooms : List Int) (ms : List M4) : Tr -> List (Addr × Dd) -> Prop
 | _, [] => True
 | t, y :: ys => codeT rooms ms t y.2 = 8 /\ RunOk rooms ms (t.doneT ms (.ref y.1) y.2) ys
theorem RunOk.at {rooms : List Int} {ms : List M4} : ∀ {ys : List (Addr × Dd)} {t : Tr}, RunOk rooms ms t ys -> ∀ (i : Nat) (y : Addr × Dd), ys[i]? = some y -> codeT rooms ms (runT ms t (ys.take i)) y.2 = 8
 | [], _, _, i, y, h => by cases h
 | z :: ys, t, r, 0, y, h => by cases h; exact r.1
 | z :: ys, t, r, i + 1, y, h => RunOk.at r.2 i y h
theorem RunOk.snoc {rooms : List Int} {ms : List M4} : ∀ {ys : List (Addr × Dd)} {t : Tr} {y : Addr × Dd}, RunOk rooms ms t ys -> codeT rooms ms (runT ms t ys) y.2 = 8 -> RunOk rooms ms t (ys ++ [y])
 | [], _, _, _, c => ⟨c, trivial⟩
 | z :: ys, t, y, r, c => ⟨r.1, RunOk.snoc r.2 c⟩
def Dd.withL : Dd -> Int -> Dd
 | .drop _ w, p => .drop p w
 | .pass gv m _ g, p => .pass gv m p g
def Dd.ren (ks : List Nat) (d : Dd) : Option Dd := if d.let.toNat ∈ ks then some (d.withL ((ks.idxOf d.let.toNat : Nat) : Int)) else none
theorem kvNext_withL {ms : List M4} {kv : List (Int × Int)} (d : Dd) (p : Int) : kvNext ms kv (d.withL p) = kvNext ms kv d := by cases d <;> rfl
theorem mem_bagTo {w : Int} {ls : List (Addr × L4)} {hs : List (Addr × List (Int × Int))} : ∀ {n : Nat} {x : Int}, x ∈ bagTo w ls hs n ↔ ∃ i : Nat, i < n /\ x = i /\ inBag w ls[i]? hs[i]? = true
 | 0, x => by
  constructor
  ·intro h; cases h
  ·rintro ⟨i, h, _⟩; omega
 | n + 1, x => by
  unfold bagTo
  rw [zZ, mem_bagTo]
  constructor
  ·rintro (⟨i, hi, e, h⟩ | h)
   ·exact ⟨i, by omega, e, h⟩
   ·split at h
    ·rename_i c; exact ⟨n, by omega, zM.mp h, c⟩
    ·cases h
  ·rintro ⟨i, hi, e, h⟩
   by_cases z : i = n
   ·subst z; rw [if_pos h]; exact .inr (by rw [e]; exact .head _)
   ·exact .inl ⟨i, by omega, e, h⟩
theorem bagTo_pw {w : Int} {ls : List (Addr × L4)} {hs : List (Addr × List (Int × Int))} : ∀ n : Nat, (bagTo w ls hs n).Pairwise (· < ·)
 | 0 => List.Pairwise.nil
 | n + 1 => by
  unfold bagTo
  refine List.pairwise_append.mpr ⟨bagTo_pw n, by split <;> simp, fun a ha b hb => ?_⟩
  obtain ⟨i, hi, rfl, _⟩ := mem_bagTo.mp ha
  split at hb
  ·rw [zM.mp hb]; omega
  ·cases hb
theorem nodup_len : ∀ {xs ys : List Int}, xs.Nodup -> (∀ x ∈ xs, x ∈ ys) -> xs.length <= ys.length
 | [], _, _, _ => zb _
 | x :: xs, ys, nd, h => by
  have nd' := yV.mp nd
  have hm := h x (.head _)
  have := nodup_len (xs := xs) (ys := ys.erase x) nd'.2 fun z hz => (List.mem_erase_of_ne (fun e => nd'.1 (by rw [<- e]; exact hz))).mpr (h z (.tail _ hz))
  rw [List.length_erase_of_mem hm] at this
  have : 0 < ys.length := List.length_pos_of_mem hm
  show xs.length + 1 <= _
  omega
theorem nodup_at {ks : List Nat} (nd : ks.Nodup) {p q k : Nat} (hp : ks[p]? = some k) (hq : ks[q]? = some k) : p = q := by
 obtain ⟨lp, ep⟩ := zB.mp hp
 obtain ⟨lq, eq⟩ := zB.mp hq
 have pw := yC.mp nd
 rcases Nat.lt_trichotomy p q with h | h | h
 ·exact absurd (ep.trans eq.symm) (pw p q lp lq h)
 ·exact h
 ·exact absurd (eq.trans ep.symm) (pw q p lq lp h)
theorem idx_at {ks : List Nat} {k : Nat} (h : k ∈ ks) : ks[ks.idxOf k]? = some k := by
 have l := yD.mpr h
 rw [zE l, List.getElem_idxOf l]
theorem inBag_congr {w : Int} {l l' : Option (Addr × L4)} {h h' : Option (Addr × List (Int × Int))} (e1 : l.map (·.2) = l'.map (·.2)) (e2 : h.map (·.2) = h'.map (·.2)) : inBag w l h = inBag w l' h' := by
 cases l <;> cases l' <;> cases h <;> cases h' <;> simp_all [inBag]
structure Sub (ks : List Nat) (t u : Tr) : Prop where
 kl : ∀ k ∈ ks, k < t.ls.length
 ll : u.ls.length = ks.length
 lh : u.hs.length = ks.length
 lo : u.os.length = ks.length
 th : t.hs.length = t.ls.length
 to : t.os.length = t.ls.length
 ls : ∀ p k : Nat, ks[p]? = some k -> (u.ls[p]?).map (·.2) = (t.ls[k]?).map (·.2)
 hs : ∀ p k : Nat, ks[p]? = some k -> (u.hs[p]?).map (·.2) = (t.hs[k]?).map (·.2)
 os : ∀ p k : Nat, ks[p]? = some k -> u.os[p]? = t.os[k]?
 ln : u.ns.length = t.ns.length
 ns : ∀ i : Nat, u.ns[i]?.getD 0 <= t.ns[i]?.getD 0
 r : u.r <= t.r
theorem Sub.inB {ks : List Nat} {t u : Tr} (s : Sub ks t u) {p k : Nat} (h : ks[p]? = some k) (w : Int) : inBag w u.ls[p]? u.hs[p]? = inBag w t.ls[k]? t.hs[k]? := inBag_congr (s.ls p k h) (s.hs p k h)
theorem Sub.bagLe {ks : List Nat} (nd : ks.Nodup) {t u : Tr} (s : Sub ks t u) (w : Int) : (bagTo w u.ls u.hs u.hs.length).length <= (bagTo w t.ls t.hs t.hs.length).length := by
 have := nodup_len (xs := (bagTo w u.ls u.hs u.hs.length).map fun x => ((ks[x.toNat]?.getD 0 : Nat) : Int)) (ys := bagTo w t.ls t.hs t.hs.length) ?_ ?_
 ·rw [zA] at this; exact this
 ·refine yN.mpr ((bagTo_pw _).imp_of_mem fun {a b} ha hb lt => ?_)
  obtain ⟨i, hi, rfl, _⟩ := mem_bagTo.mp ha
  obtain ⟨j, hj, rfl, _⟩ := mem_bagTo.mp hb
  rw [s.lh] at hi hj
  rw [zF, zF, zE hi, zE hj]
  intro e
  have e' : ks[i] = ks[j] := by have e2 : ((ks[i] : Nat) : Int) = ((ks[j] : Nat) : Int) := e; omega
  have := nodup_at nd (p := i) (q := j) (k := ks[i]) (zE hi) (by rw [e']; exact zE hj)
  omega
 ·intro x hx
  obtain ⟨y, hy, rfl⟩ := zQ.mp hx
  obtain ⟨i, hi, rfl, hb⟩ := mem_bagTo.mp hy
  rw [s.lh] at hi
  have hk := zE hi
  rw [zF, hk]
  refine mem_bagTo.mpr ⟨ks[i], by rw [s.th]; exact s.kl _ (zY hi), rfl, ?_⟩
  rw [<- s.inB hk]; exact hb
theorem codeP2_mono {rooms : List Int} {M : M4} {L : L4} {kv : List (Int × Int)} {n n' : Int} {bag bag' : Nat} {g : Int} (hn : n' <= n) (hb : bag' <= bag) (e : codeP2 rooms M L kv n bag g = 8) : codeP2 rooms M L kv n' bag' g = 8 := by
 unfold codeP2 at *
 split at e
 ·rename_i c1
  rw [if_pos c1]
  split at e
  ·rename_i c2
   rw [if_pos c2]
   split at e
   ·omega
   ·rename_i c3
    rw [if_neg c3]
    split at e
    ·omega
    ·rename_i c4
     rw [if_neg (by omega)]
     split at e
     ·omega
     ·rename_i c5
      rw [if_neg]
      intro z
      refine c5 ?_
      have a := (zr _ _).mp z
      rw [a.1, yO]
      have := of_decide_eq_true a.2
      exact decide_eq_true (by omega)
  ·omega
 ·omega
theorem map_some {α β : Type} {f : α -> β} {o o' : Option α} {a : α} (e : o.map f = o'.map f) (h : o' = some a) : ∃ b, o = some b /\ f b = f a := by
 subst h
 cases o with
 | none => cases e
 | some b => exact ⟨b, rfl, Option.some.inj e⟩
theorem Sub.code {rooms : List Int} {ms : List M4} {ks : List Nat} (nd : ks.Nodup) {t u : Tr} (s : Sub ks t u) {d : Dd} (c : codeT rooms ms t d = 8) {n : Nat} (en : d.let = n) (hn : n ∈ ks) : codeT rooms ms u (d.withL ((ks.idxOf n : Nat) : Int)) = 8 := by
 have hp := idx_at hn
 have lp := yD.mpr hn
 generalize ks.idxOf n = p at hp lp ⊢
 cases d with
 | drop l w =>
  obtain ⟨l', h, rfl, hl, hh, hw, w0, w1⟩ := codeD8 c
  obtain rfl : l' = n := by have : (l' : Int) = n := en; omega
  obtain ⟨h', hh', eh⟩ := map_some (s.hs p l' hp) hh
  show codeD rooms u (p : Int) w = 8
  unfold codeD
  rw [if_pos ⟨by omega, by rw [s.ll]; omega⟩, if_pos ⟨w0, w1⟩, zF, hh']
  dsimp only
  rw [eh, if_pos hw]
 | pass gv m l g =>
  obtain ⟨m', l', M, L, h, rfl, rfl, hM, hL, hh, hr, hg, hb, ho, hc⟩ := codeP8 s.th c
  obtain rfl : l' = n := by have : (l' : Int) = n := en; omega
  obtain ⟨h', hh', eh⟩ := map_some (s.hs p l' hp) hh
  obtain ⟨L', hL', eL⟩ := map_some (s.ls p l' hp) hL
  show codeP rooms ms u (m' : Int) (p : Int) g = 8
  have hm := (zB.mp hM).1
  have := s.r
  unfold codeP
  rw [if_pos ⟨by omega, by omega, by omega⟩, if_pos ⟨by omega, by rw [s.ll]; omega⟩, zF, zF, hM, hL', hh']
  dsimp only
  rw [eh, eL]
  exact codeP2_mono (s.ns m') (s.bagLe nd _) hc
theorem doneT_hs {rooms : List Int} {ms : List M4} {t : Tr} (lh : t.hs.length = t.ls.length) {d : Dd} (y : V) (c : codeT rooms ms t d = 8) : ∃ (n : Nat) (h : Addr × List (Int × Int)), d.let = n /\ n < t.ls.length /\ t.hs[n]? = some h /\ (t.doneT ms y d).hs.map (·.2) = (t.hs.map (·.2)).set n (kvNext ms h.2 d) := by
 cases d with
 | drop l w =>
  obtain ⟨l', h, rfl, hl, hh, hw, _, _⟩ := codeD8 c
  refine ⟨l', h, rfl, hl, hh, ?_⟩
  show (t.setH ((l' : Int)).toNat (kvdel (t.kv ((l' : Int)).toNat) w)).hs.map (·.2) = _
  rw [zF, setH_map]
  have ek : t.kv l' = h.2 := by unfold Tr.kv; rw [hh]
  rw [ek]; rfl
 | pass gv m l g =>
  obtain ⟨m', l', M, L, h, rfl, rfl, hM, hL, hh, hr', hg, hb, ho, _⟩ := codeP8 lh c
  refine ⟨l', h, rfl, (zB.mp hL).1, hh, ?_⟩
  have ek : t.kv l' = h.2 := by unfold Tr.kv; rw [hh]
  have pk := passed_kv (m := m') (M := M) (L := L.2) (o := othI M g) (C := 0) (H := fun _ => none) (rooms := []) (tr := 0) (tm := 0) (ps := []) (n0 := 0) hh
  have e1 : (t.passed m' l' M L.2 (othI M g)).hs.map (·.2) = (t.hs.map (·.2)).set l' (kvput h.2 (othI M g) M.t) := by
   show (t.setH l' (kvput (t.kv l') (othI M g) M.t)).hs.map (·.2) = _
   rw [setH_map, ek]
  have e2 : (t.doneT ms y (.pass gv (m' : Int) (l' : Int) g)).hs = (t.doneP gv m' l' g M L.2).hs := by
   unfold Tr.doneT; dsimp only; rw [zF, zF, hM, hL]
  rw [e2]
  have kn : kvNext ms h.2 (.pass gv (m' : Int) (l' : Int) g) = if gv = true then kvdel (kvput h.2 (othI M g) M.t) g else kvput h.2 (othI M g) M.t := by
   unfold kvNext; dsimp only; rw [zF, hM]
  rw [kn]
  unfold Tr.doneP
  cases gv with
  | false => exact e1
  | true => rw [if_pos rfl, if_pos rfl, setH_map, pk.2, e1, List.set_set]
theorem noteA_at {os : List (Option Int)} {n : Nat} {l : L4} {w t : Int} {k : Nat} : (noteA os n l w t)[k]? = if n = k /\ w = l.w /\ t <= l.z /\ os[n]? = some none then some (some t) else os[k]? := by
 unfold noteA
 by_cases c : w = l.w /\ t <= l.z /\ os[n]? = some none
 ·rw [if_pos c, yF]
  by_cases z : n = k
  ·have hl : n < os.length := by obtain ⟨h, _⟩ := zB.mp c.2.2; exact h
   rw [if_pos z, if_pos hl, if_pos ⟨z, c⟩]
  ·rw [if_neg z, if_neg fun h => z h.1]
 ·rw [if_neg c, if_neg fun h => c h.2]
theorem set_getD {xs : List Int} {m i : Nat} {v : Int} : (xs.set m v)[i]?.getD 0 = if m = i /\ m < xs.length then v else xs[i]?.getD 0 := by
 rw [yF]
 by_cases z : m = i
 ·subst z
  by_cases l : m < xs.length
  ·rw [if_pos rfl, if_pos l, if_pos ⟨rfl, l⟩]; rfl
  ·rw [if_pos rfl, if_neg l, if_neg fun h => l h.2, List.getElem?_eq_none (by omega)]
 ·rw [if_neg z, if_neg fun h => z h.1]
theorem Sub.step {rooms : List Int} {ms : List M4} {ks : List Nat} (nd : ks.Nodup) {t u : Tr} (s : Sub ks t u) {d : Dd} (c : codeT rooms ms t d = 8) {n : Nat} (en : d.let = n) (hn : n ∈ ks) (y y' : V) : Sub ks (t.doneT ms y d) (u.doneT ms y' (d.withL ((ks.idxOf n : Nat) : Int))) := by
  have c' := s.code nd c en hn
  have hp := idx_at hn
  have lp := yD.mpr hn
  generalize ks.idxOf n = p at hp lp c' ⊢
  obtain ⟨n1, h, e1, ln1, hh, ehs⟩ := doneT_hs s.th y c
  obtain ⟨p1, h', e2, lp1, hh', ehs'⟩ := doneT_hs (s.lh.trans s.ll.symm) y' c'
  obtain rfl : n1 = n := by rw [en] at e1; omega
  obtain rfl : p1 = p := by have : (d.withL (p : Int)).let = p := by cases d <;> rfl
                            rw [this] at e2; omega
  rw [kvNext_withL] at ehs'
  have eh : h'.2 = h.2 := by have := s.hs p1 n1 hp; rw [hh, hh'] at this; exact Option.some.inj this
  rw [eh] at ehs'
  have ad := doneT_ad t ms y d
  have ad' := doneT_ad u ms y' (d.withL (p1 : Int))
  have pk : ∀ q k : Nat, ks[q]? = some k -> (p1 = q ↔ n1 = k) := fun q k hq => ⟨fun e => (by subst e; rw [hp] at hq; exact Option.some.inj hq), fun e => (by subst e; exact nodup_at nd hp hq)⟩
  have lt : (t.doneT ms y d).hs.length = t.hs.length := by have := congrArg List.length ehs; rw [zA, zj, zA] at this; exact this
  have lu : (u.doneT ms y' (d.withL (p1 : Int))).hs.length = u.hs.length := by have := congrArg List.length ehs'; rw [zA, zj, zA] at this; exact this
  have hsE : ∀ q k : Nat, ks[q]? = some k -> ((u.doneT ms y' (d.withL (p1 : Int))).hs[q]?).map (·.2) = ((t.doneT ms y d).hs[k]?).map (·.2) := fun q k hq => by
    rw [<- zC, <- zC, ehs, ehs', yF, yF]
    by_cases z : n1 = k
    · rw [if_pos ((pk q k hq).mpr z), if_pos z, if_pos (by rw [zA, s.lh]; exact lp), if_pos (by rw [zA, s.th]; exact ln1)]
    · rw [if_neg (fun e => z ((pk q k hq).mp e)), if_neg z, zC, zC]; exact s.hs q k hq
  cases d with
  | drop l w => exact ⟨s.kl, s.ll, lu.trans s.lh, s.lo, lt.trans s.th, s.to, s.ls, hsE, s.os, s.ln, s.ns, s.r⟩
  | pass gv m l g =>
    obtain ⟨m', l', M, L, h0, rfl, rfl, hM, hL, _, hr, hg, hb, ho, hc⟩ := codeP8 s.th c
    obtain rfl : l' = n1 := by have : (l' : Int) = n1 := en; omega
    obtain ⟨L', hL', eL⟩ := map_some (s.ls p1 l' hp) hL
    obtain ⟨d1, d2, d3⟩ := doneT_pass (t := t) (gv := gv) (g := g) (y := y) hM hL
    obtain ⟨f1, f2, f3⟩ := doneT_pass (t := u) (gv := gv) (g := g) (y := y') hM hL'
    have ads : (u.doneT ms y' (.pass gv (m' : Int) (p1 : Int) g)).ls = u.ls := ad'.ls
    show Sub ks (t.doneT ms y (.pass gv (m' : Int) (l' : Int) g)) (u.doneT ms y' (.pass gv (m' : Int) (p1 : Int) g))
    refine ⟨by rw [ad.ls]; exact s.kl, by rw [ads]; exact s.ll, lu.trans s.lh, by rw [f1, noteA_len]; exact s.lo, by rw [lt, ad.ls]; exact s.th, by rw [d1, noteA_len, ad.ls]; exact s.to, by rw [ad.ls, ads]; exact s.ls, hsE, fun q k hq => ?_, by rw [d2, f2, zj, zj]; exact s.ln, fun i => ?_, by rw [d3, f3]; exact yY _⟩
    · rw [d1, f1, noteA_at, noteA_at, eL, s.os p1 l' hp, s.os q k hq]
      by_cases z : l' = k
      · have z' := (pk q k hq).mpr z
        simp [z, z']
      · have z' : ¬ p1 = q := fun e => z ((pk q k hq).mp e)
        simp [z, z']
    · rw [d2, f2, set_getD, set_getD, s.ln]
      have a := s.ns i
      have b := s.ns m'
      split
      · omega
      · exact a
theorem Sub.skip {rooms : List Int} {ms : List M4} {ks : List Nat} {t u : Tr} (s : Sub ks t u) {d : Dd} (c : codeT rooms ms t d = 8) {n : Nat} (en : d.let = n) (hn : n ∉ ks) (y : V) : Sub ks (t.doneT ms y d) u := by
 obtain ⟨n1, h, e1, ln1, hh, ehs⟩ := doneT_hs s.th y c
 obtain rfl : n1 = n := by rw [en] at e1; omega
 have ad := doneT_ad t ms y d
 have lt : (t.doneT ms y d).hs.length = t.hs.length := by have := congrArg List.length ehs; rw [zA, zj, zA] at this; exact this
 have nk : ∀ q k : Nat, ks[q]? = some k -> n1 ≠ k := fun q k hq e => hn (e ▸ zD hq)
 have hsE : ∀ q k : Nat, ks[q]? = some k -> (u.hs[q]?).map (·.2) = ((t.doneT ms y d).hs[k]?).map (·.2) := fun q k hq => by
  rw [<- zC (l := (t.doneT ms y d).hs), ehs, yF, if_neg (nk q k hq), zC]
  exact s.hs q k hq
 cases d with
 | drop l w => exact ⟨s.kl, s.ll, s.lh, s.lo, lt.trans s.th, s.to, s.ls, hsE, s.os, s.ln, s.ns, s.r⟩
 | pass gv m l g =>
  obtain ⟨m', l', M, L, h0, rfl, rfl, hM, hL, _, hr, hg, hb, ho, hc⟩ := codeP8 s.th c
  obtain rfl : l' = n1 := by have : (l' : Int) = n1 := en; omega
  obtain ⟨d1, d2, d3⟩ := doneT_pass (t := t) (gv := gv) (g := g) (y := y) hM hL
  have sr := s.r
  refine ⟨by rw [ad.ls]; exact s.kl, s.ll, s.lh, s.lo, by rw [lt, ad.ls]; exact s.th, by rw [d1, noteA_len, ad.ls]; exact s.to, by rw [ad.ls]; exact s.ls, hsE, fun q k hq => ?_, by rw [d2, zj]; exact s.ln, fun i => ?_, by rw [d3]; omega⟩
  ·rw [d1, noteA_at, if_neg fun z => nk q k hq z.1]; exact s.os q k hq
  ·rw [d2, set_getD]
   have a := s.ns i
   split
   ·rename_i z
    obtain ⟨rfl, _⟩ := z
    omega
   ·exact a
theorem Sub.run {rooms : List Int} {ms : List M4} {ks : List Nat} (nd : ks.Nodup) : ∀ {ys : List (Addr × Dd)} {t u : Tr} (zs : List (Addr × Dd)), Sub ks t u -> RunOk rooms ms t ys -> zs.map (·.2) = (ys.map (·.2)).filterMap (Dd.ren ks) -> RunOk rooms ms u zs /\ Sub ks (runT ms t ys) (runT ms u zs)
 | [], t, u, zs, s, _, e => by
  have : zs = [] := List.map_eq_nil_iff.mp e
  subst this; exact ⟨trivial, s⟩
 | y :: ys, t, u, zs, s, r, e => by
  obtain ⟨n, h, en, ln, hh, _⟩ := doneT_hs s.th (.ref y.1) r.1
  rw [zc, yP] at e
  by_cases hn : n ∈ ks
  ·have er : y.2.ren ks = some (y.2.withL ((ks.idxOf n : Nat) : Int)) := by unfold Dd.ren; rw [en, zF, if_pos hn]
   rw [er] at e
   dsimp only at e
   cases zs with
   | nil => cases e
   | cons z zs =>
    obtain ⟨e1, e2⟩ := List.cons.inj e
    have st := s.step nd r.1 en hn (.ref y.1) (.ref z.1)
    have cc := s.code nd r.1 en hn
    rw [<- e1] at st cc
    have := Sub.run nd zs st r.2 e2
    exact ⟨⟨cc, this.1⟩, this.2⟩
  ·have er : y.2.ren ks = none := by unfold Dd.ren; rw [en, zF, if_neg hn]
   rw [er] at e
   have sk := s.skip r.1 en hn (.ref y.1)
   exact Sub.run nd (t := t.doneT ms (.ref y.1) y.2) (u := u) zs sk r.2 e
theorem Sub.new {ks : List Nat} {ls lk : List (Addr × L4)} {m : Nat} (kl : ∀ k ∈ ks, k < ls.length) (el : lk.length = ks.length) (e : ∀ p k : Nat, ks[p]? = some k -> lk[p]? = ls[k]?) : Sub ks (newTr ls m) (newTr lk m) := by
 refine ⟨kl, el, by show (lk.map _).length = _; rw [zA, el], by show (lk.map _).length = _; rw [zA, el], by show (ls.map _).length = _; rw [zA]; rfl, by show (ls.map _).length = _; rw [zA]; rfl, fun p k h => ?_, fun p k h => ?_, fun p k h => ?_, rfl, fun i => yY _, yY _⟩
 ·show (lk[p]?).map _ = (ls[k]?).map _; rw [e p k h]
 ·show ((lk.map _)[p]?).map _ = ((ls.map _)[k]?).map _; rw [zC, zC, e p k h]
 ·show (lk.map _)[p]? = (ls.map _)[k]?; rw [zC, zC, e p k h]
theorem Sub.twin {ks : List Nat} {t u v : Tr} (s : Sub ks t u) (w : Twin v u) (lh : v.hs.length = v.ls.length) (lo : v.os.length = v.ls.length) : Sub ks t v := by
 have h2 : ∀ p : Nat, (v.hs[p]?).map (·.2) = (u.hs[p]?).map (·.2) := fun p => by rw [<- zC, <- zC, w.hs]
 exact ⟨s.kl, by rw [w.ls]; exact s.ll, by rw [lh, w.ls]; exact s.ll, by rw [lo, w.ls]; exact s.ll, s.th, s.to, fun p k h => by rw [w.ls]; exact s.ls p k h, fun p k h => by rw [h2]; exact s.hs p k h, fun p k h => by rw [w.os]; exact s.os p k h, by rw [w.ns]; exact s.ln, by rw [w.ns]; exact s.ns, by rw [w.r]; exact s.r⟩
theorem Sub.bagEq {ks : List Nat} (nd : ks.Nodup) {t u : Tr} (s : Sub ks t u) (w : Int) {ms : List Int} (pm : ms.Perm (((bagTo w t.ls t.hs t.hs.length).filter fun x => decide (x.toNat ∈ ks)).map fun x => ((ks.idxOf x.toNat : Nat) : Int))) (pw : ms.Pairwise (· <= ·)) : ms = bagTo w u.ls u.hs u.hs.length := by
 refine List.Perm.eq_of_pairwise (le := fun a b => a <= b) (fun a b _ _ x y => Int.le_antisymm x y) pw ((bagTo_pw _).imp fun h => Int.le_of_lt h) (pm.trans ?_)
 refine (List.perm_ext_iff_of_nodup ?_ ?_).mpr fun x => ?_
 ·refine yN.mpr (((bagTo_pw _).sublist List.filter_sublist).imp_of_mem fun {a b} ha hb lt e => ?_)
  obtain ⟨a1, a2⟩ := z8.mp ha
  obtain ⟨b1, b2⟩ := z8.mp hb
  obtain ⟨i, _, rfl, _⟩ := mem_bagTo.mp a1
  obtain ⟨j, _, rfl, _⟩ := mem_bagTo.mp b1
  rw [zF, zF] at e
  have ha2 : i ∈ ks := by have := of_decide_eq_true a2; rwa [zF] at this
  have hb2 : j ∈ ks := by have := of_decide_eq_true b2; rwa [zF] at this
  have e1 := idx_at ha2
  have e2 := idx_at hb2
  have e3 : ks.idxOf i = ks.idxOf j := by omega
  rw [e3, e2] at e1
  have := Option.some.inj e1
  omega
 ·exact (bagTo_pw _).imp fun h => by omega
 ·constructor
  ·intro hx
   obtain ⟨z, hz, rfl⟩ := zQ.mp hx
   obtain ⟨z1, z2⟩ := z8.mp hz
   obtain ⟨i, hi, rfl, hb⟩ := mem_bagTo.mp z1
   have hk : i ∈ ks := by have := of_decide_eq_true z2; rwa [zF] at this
   rw [zF]
   exact mem_bagTo.mpr ⟨ks.idxOf i, by rw [s.lh]; exact yD.mpr hk, rfl, by rw [s.inB (idx_at hk)]; exact hb⟩
  ·intro hx
   obtain ⟨p, hp, rfl, hb⟩ := mem_bagTo.mp hx
   rw [s.lh] at hp
   have hk := zE hp
   have km := zY hp
   refine zQ.mpr ⟨(ks[p] : Int), z8.mpr ⟨mem_bagTo.mpr ⟨ks[p], by rw [s.th]; exact s.kl _ km, rfl, by rw [<- s.inB hk]; exact hb⟩, by rw [zF]; exact decide_eq_true km⟩, ?_⟩
   rw [zF, nodup_at nd (idx_at km) hk]
end Sm
set_option Elab.async false
set_option linter.all false
set_option maxRecDepth 100000
set_option maxHeartbeats 400000
namespace Sm
open PySem L2 SmSort
theorem TrOk.butO {C : Addr} {H H' : Hp} {t : Tr} {rooms : List Int} {tr tm : Addr} {ps : List (Addr × M4)} {n0 : Nat} (k : TrOk C H t rooms tr tm ps n0) {p : Addr} {o : HO} (b : But p H H') (hp : H p = some o) (no : ∀ xs, o ≠ .tup xs) (np : ¬ (t.own p \/ p = t.lL \/ p = t.lH)) : TrOk C H' t rooms tr tm ps n0 := by
 refine k.keep fun c u hc e => b c u (fun z => ?_) e
 subst z
 rcases hc with h | h | h | ⟨ys, h⟩
 ·exact np (.inl h)
 ·exact np (.inr (.inl h))
 ·exact np (.inr (.inr h))
 ·rw [hp] at h; cases h; exact no _ rfl
theorem Hold.butL {H0 H H' : Hp} {hl : Addr} {gs : List (Addr × List (Int × Int))} {t u : Tr} (h : Hold H0 H hl gs t u) {p : Addr} {xs : List V} (b : But p H H') (hp : H p = some (.lst xs)) (np : hl ≠ p) : Hold H0 H' hl gs t u :=
 ⟨⟨b _ _ np h.at_.1, fun g hg => b _ _ (xU (h.at_.2 g hg) hp (by intro z; cases z)) (h.at_.2 g hg)⟩, h.nd, h.fl, h.nl, h.fg⟩
def DsAt (H : Hp) (ys : List (Addr × Dd)) : Prop := ∀ y ∈ ys, H y.1 = some (.tup y.2.vs)
theorem DsAt.same {H H' : Hp} {ys : List (Addr × Dd)} (h : DsAt H ys) (s : Same H H') : DsAt H' ys := fun y hy => s _ _ (h y hy)
end Sm
set_option Elab.async false
set_option linter.all false
set_option maxRecDepth 100000
set_option maxHeartbeats 400000
namespace Sm
open PySem L2 SmSort
open Classical in
noncomputable def cut (M : Addr -> Prop) (H : Hp) : Hp := fun c => if M c then none else H c
theorem cut_some {M : Addr -> Prop} {H : Hp} {c : Addr} {u : HO} : cut M H c = some u ↔ ¬ M c /\ H c = some u := by
 unfold cut
 by_cases h : M c
 ·rw [if_pos h]; exact ⟨fun z => (by cases z), fun z => absurd h z.1⟩
 ·rw [if_neg h]; exact ⟨fun z => ⟨h, z⟩, fun z => z.2⟩
theorem cut_le {M : Addr -> Prop} {H : Hp} : Same (cut M H) H := fun c u e => (cut_some.mp e).2
theorem cut_keep {M N : Addr -> Prop} {H H' : Hp} (m : ∀ c u, H c = some u -> N c -> M c) (kp : ∀ c u, ¬ M c -> H c = some u -> H' c = some u) : Same (cut M H) (cut N H') := fun c u e => by
 obtain ⟨a, b⟩ := cut_some.mp e
 exact cut_some.mpr ⟨fun z => a (m c u b z), kp c u a b⟩
theorem cutI {H H' : Hp} {c : Addr} {u : HO} (f : H c = none) (e : H' c = some u) : cut (fun c => H c ≠ none) H' c = some u := cut_some.mpr ⟨fun z => z f, e⟩
theorem cutN {M : Addr -> Prop} {H H' : Hp} (s : Same H H') : Same (cut M H) (cut M H') := cut_keep (fun _ _ _ z => z) fun c u _ e => s c u e
structure Sn where
 kvs : List (List (Int × Int))
 os : List (Option Int)
 bags : List (List Int)
 ds : List V
def snOf (n : Nat) (t : Tr) : Sn := ⟨t.hs.map (·.2), t.os, (List.range n).map (fun w : Nat => bagTo (w : Int) t.ls t.hs t.hs.length), t.ds⟩
theorem Twin.sn {t u : Tr} (w : Twin t u) (e : t.ds = u.ds) (n : Nat) : snOf n t = snOf n u := by
 unfold snOf
 rw [w.hs, w.os, e]
 congr 1
 refine yH fun k _ => ?_
 rw [w.bag, w.len]
def HavAt (H : Hp) (x : Addr × List (Addr × List Int)) (kv : List (Int × Int)) : Prop := H x.1 = some (.lst (x.2.map fun a => V.ref a.1)) /\ (∀ a ∈ x.2, H a.1 = some (.tup (a.2.map V.int))) /\ (x.2.map (·.2)).Perm (kv.map fun p => [p.1, p.2]) /\ x.2.Pairwise fun a b => lx b.2 a.2 = false
theorem HavAt.same {H H' : Hp} {x : Addr × List (Addr × List Int)} {kv : List (Int × Int)} (h : HavAt H x kv) (s : Same H H') : HavAt H' x kv := ⟨s _ _ h.1, fun a ha => s _ _ (h.2.1 a ha), h.2.2⟩
def SeenAt (H : Hp) (s : Addr) (S : Sn) : Prop := ∃ hv cm bg dn, ∃ hq : List (Addr × List (Addr × List Int)), ∃ bq : List (Addr × List Int),
 H s = some (.lst [.ref hv, .ref cm, .ref bg, .ref dn]) /\ H hv = some (.lst (hq.map fun x => V.ref x.1)) /\ hq.length = S.kvs.length /\ (∀ (i : Nat) x kv, hq[i]? = some x -> S.kvs[i]? = some kv -> HavAt H x kv) /\ H cm = some (.lst (S.os.map oV)) /\ H bg = some (.lst (bq.map fun x => V.ref x.1)) /\ (∀ x ∈ bq, H x.1 = some (.lst (x.2.map V.int))) /\ bq.map (·.2) = S.bags /\ H dn = some (.lst S.ds)
theorem SeenAt.same {H H' : Hp} {s : Addr} {S : Sn} (h : SeenAt H s S) (sm : Same H H') : SeenAt H' s S := by
 obtain ⟨hv, cm, bg, dn, hq, bq, a1, a2, a3, a4, a5, a6, a7, a8, a9⟩ := h
 exact ⟨hv, cm, bg, dn, hq, bq, sm _ _ a1, sm _ _ a2, a3, fun i x kv e1 e2 => (a4 i x kv e1 e2).same sm, sm _ _ a5, sm _ _ a6, fun x hx => sm _ _ (a7 x hx), a8, sm _ _ a9⟩
theorem eqv_lst {K : PySem.W.Frag} {H : Hp} {n : Nat} {a c : Addr} {xs ys : List V} (ha : H a = some (.lst xs)) (hc : H c = some (.lst ys)) (l : xs.length = ys.length) (h : ∀ (i : Nat) (x y : V), xs[i]? = some x -> ys[i]? = some y -> Eqv K H n x y true) : Eqv K H (n + 1) (.ref a) (.ref c) true :=
 .inr (.inr ⟨a, c, xs, ys, fun _ => true, rfl, rfl, .inl ⟨SqL.of ha, SqL.of hc⟩, fun _ => rfl, by simp [l], h⟩)
theorem eqv_tup {K : PySem.W.Frag} {H : Hp} {n : Nat} {a c : Addr} {xs ys : List V} (ha : H a = some (.tup xs)) (hc : H c = some (.tup ys)) (l : xs.length = ys.length) (h : ∀ (i : Nat) (x y : V), xs[i]? = some x -> ys[i]? = some y -> Eqv K H n x y true) : Eqv K H (n + 1) (.ref a) (.ref c) true :=
 .inr (.inr ⟨a, c, xs, ys, fun _ => true, rfl, rfl, .inr ⟨SqT.of ha, SqT.of hc⟩, fun _ => rfl, by simp [l], h⟩)
theorem eqv_flat {K : PySem.W.Frag} {H : Hp} {n : Nat} {x : V} (f : flatV x = true) (e : eqV x x = true) : Eqv K H n x x true := by
 cases n with
 | zero => exact .inr ⟨f, f, e.symm⟩
 | succ n => exact .inr (.inl ⟨f, f, e.symm⟩)
theorem eqv_int {K : PySem.W.Frag} {H : Hp} {n : Nat} (i : Int) : Eqv K H n (.int i) (.int i) true := eqv_flat rfl (by rw [eqV_int]; exact decide_eq_true rfl)
theorem eqv_same {K : PySem.W.Frag} {H : Hp} {n : Nat} (a : Addr) : Eqv K H n (.ref a) (.ref a) true := by
 cases n with
 | zero => exact .inl ⟨rfl, ⟨_, rfl⟩, rfl⟩
 | succ n => exact .inl ⟨rfl, ⟨_, rfl⟩, rfl⟩
theorem eqv_ints {K : PySem.W.Frag} {H : Hp} {n : Nat} (ns : List Int) (i : Nat) (x y : V) (hx : (ns.map V.int)[i]? = some x) (hy : (ns.map V.int)[i]? = some y) : Eqv K H n x y true := by
 rw [hx] at hy; cases hy
 obtain ⟨r, _, rfl⟩ := xO hx
 exact eqv_int r
theorem eqv_rows {K : PySem.W.Frag} {H : Hp} {n : Nat} {qs rs : List (Addr × List Int)} (hq : ∀ a ∈ qs, H a.1 = some (.tup (a.2.map V.int))) (hr : ∀ a ∈ rs, H a.1 = some (.tup (a.2.map V.int))) (e : qs.map (·.2) = rs.map (·.2)) (i : Nat) (x y : V) (hx : (qs.map fun a => V.ref a.1)[i]? = some x) (hy : (rs.map fun a => V.ref a.1)[i]? = some y) : Eqv K H (n + 1) x y true := by
 obtain ⟨q, h1, rfl⟩ := xO hx
 obtain ⟨r, h2, rfl⟩ := xO hy
 have eq : q.2 = r.2 := by
  have := congrArg (·[i]?) e
  simp only [zC, h1, h2, yA, Option.some.injEq] at this
  exact this
 have k1 := hq q (zD h1)
 have k2 := hr r (zD h2)
 rw [<- eq] at k2
 exact eqv_tup k1 k2 rfl (eqv_ints q.2)
theorem eqv_oV {K : PySem.W.Frag} {H : Hp} {n : Nat} (o : Option Int) : Eqv K H n (oV o) (oV o) true := by
 cases o with
 | none => exact eqv_flat rfl rfl
 | some z => exact eqv_int z
theorem SeenAt.ne {K : PySem.W.Frag} {H : Hp} {s s' : Addr} {S : Sn} {Q : VK} (a : SeenAt H s S) (b : SeenAt H s' S) (rd : ∀ x ∈ S.ds, ∃ a, x = V.ref a) (q : Q (.bl false) H) : rEqv K true (.ref s) (.ref s') H Q := by
 obtain ⟨hv, cm, bg, dn, hq, bq, a1, a2, a3, a4, a5, a6, a7, a8, a9⟩ := a
 obtain ⟨hv', cm', bg', dn', hq', bq', b1, b2, b3, b4, b5, b6, b7, b8, b9⟩ := b
 refine ⟨3, s, s', _, _, fun _ => true, true, by decide, rfl, rfl, .inl ⟨SqL.of a1, SqL.of b1⟩, rfl, fun i x y hx hy => ?_, q⟩
 match i, hx, hy with
 | 0, hx, hy =>
  cases hx; cases hy
  refine eqv_lst a2 b2 (by rw [zA, zA, a3, b3]) fun j x y hx hy => ?_
  obtain ⟨u, h1, rfl⟩ := xO hx
  obtain ⟨v, h2, rfl⟩ := xO hy
  obtain ⟨kv, hk⟩ : ∃ kv, S.kvs[j]? = some kv := ⟨_, zE (by rw [<- a3]; exact (zB.mp h1).1)⟩
  obtain ⟨u1, u2, u3, u4⟩ := a4 j u kv h1 hk
  obtain ⟨v1, v2, v3, v4⟩ := b4 j v kv h2 hk
  have e := having_same u3 u4 v3 v4
  exact eqv_lst u1 v1 (by have := congrArg List.length e; simpa using this) (eqv_rows u2 v2 e)
 | 1, hx, hy =>
  cases hx; cases hy
  refine eqv_lst a5 b5 rfl fun j x y hx hy => ?_
  rw [hx] at hy; cases hy
  obtain ⟨o, _, rfl⟩ := xO hx
  exact eqv_oV o
 | 2, hx, hy =>
  cases hx; cases hy
  have e := a8.trans b8.symm
  refine eqv_lst a6 b6 (by have := congrArg List.length e; simpa using this) fun j x y hx hy => ?_
  obtain ⟨u, h1, rfl⟩ := xO hx
  obtain ⟨v, h2, rfl⟩ := xO hy
  have eq : u.2 = v.2 := by
   have := congrArg (·[j]?) e
   simp only [zC, h1, h2, yA, Option.some.injEq] at this
   exact this
  have k1 := a7 u (zD h1)
  have k2 := b7 v (zD h2)
  rw [<- eq] at k2
  exact eqv_lst k1 k2 rfl (eqv_ints u.2)
 | 3, hx, hy =>
  cases hx; cases hy
  refine eqv_lst a9 b9 rfl fun j x y hx hy => ?_
  rw [hx] at hy; cases hy
  obtain ⟨z, rfl⟩ := rd x (zD hx)
  exact eqv_same z
 | i + 4, hx, hy => cases hx
def spSeen50 (C : Addr) : Sp := fun vs H Q _ => ∃ t rooms tr tm ps n0, vs = [.ref t.x, .ref t.b, .int (t.ls.length : Nat)] /\ TrOk C H t rooms tr tm ps n0 /\ n0 < 64 /\
 ∀ s H', Same H H' -> H s = none -> SeenAt (cut (fun c => H c ≠ none) H') s (snOf rooms.length t) -> Q (.ref s) H'
def spTold50 (K : PySem.W.Frag) : Sp := fun vs H Q _ => ∃ sa b ll ns ls rooms tr tm ps, vs = [.ref sa, .ref b, .ref ll] /\ SqL K H sa (List.map V.int ns) /\ ns.length <= 63 /\ LetsL H ll ls /\ ls.length <= 41 /\ BookAt H b rooms tr tm ps /\ 1 <= rooms.length /\ rooms.length <= 12 /\ Good rooms.length (ps.map (·.2)) /\
 ∀ p dl sl ys (sns : List Addr) H', Same H H' -> H' p = some (.tup [.ref dl, .ref sl]) -> H' dl = some (.lst (ys.map fun y => V.ref y.1)) -> DsAt H' ys -> ys.length <= 60 -> RunOk rooms (ps.map (·.2)) (newTr ls ps.length) ys -> H' sl = some (.lst (sns.map V.ref)) -> sns.length = ys.length + 1 -> (∀ (i : Nat) s, sns[i]? = some s -> SeenAt (cut (fun c => H c ≠ none) H') s (snOf rooms.length (runT (ps.map (·.2)) (newTr ls ps.length) (ys.take i)))) -> Q (.ref p) H'
def DsLet (ys : List (Addr × Dd)) : Prop := ∀ y ∈ ys, ∃ n : Nat, y.2.let = n
def nV (ks : List Nat) : List V := ks.map fun k => V.int ((k : Nat) : Int)
theorem inV_nV (n : Nat) (ks : List Nat) : inV (V.int (n : Int)) (nV ks) = decide (n ∈ ks) := by
 induction ks with
 | nil => rfl
 | cons k ks ih =>
  show (eqV (V.int (k : Int)) (V.int (n : Int)) || inV (V.int (n : Int)) (nV ks)) = _
  rw [ih, eqV_int]
  by_cases h : k = n
  ·subst h; simp
  ·have h1 : ¬ (k : Int) = n := by omega
   have h2 : ¬ n = k := fun z => h z.symm
   simp [h1, h2]
theorem nV_flat (ks : List Nat) : (nV ks).all flatV = true := by
 refine yR.mpr fun x hx => ?_
 obtain ⟨k, _, rfl⟩ := zQ.mp hx
 rfl
theorem nV_at {ks : List Nat} {p k : Nat} (h : ks[p]? = some k) : atI (nV ks) (p : Int) = some (V.int (k : Int)) := xM (by unfold nV; rw [zC, h]; rfl)
theorem idx_first {n : Nat} : ∀ {ks : List Nat} (m : Nat), m < ks.idxOf n -> ∀ k, ks[m]? = some k -> k ≠ n
 | [], m, h, k, e => by cases e
 | x :: ks, m, h, k, e => by
  rw [List.idxOf_cons] at h
  by_cases z : x = n
  ·subst z; simp at h
  ·have : (x == n) = false := by simp [z]
   rw [this] at h
   cases m with
   | zero => cases e; exact z
   | succ m => exact idx_first m (by simp at h; omega) k e
theorem index_nV {K : PySem.W.Frag} {H : Hp} {kl : Addr} {ks : List Nat} {n : Nat} {Q : VK} (hkl : H kl = some (.lst (nV ks))) (hn : n ∈ ks) (l : ks.length <= 64) (q : Q (.int ((ks.idxOf n : Nat) : Int)) H) : rIndex K (.ref kl) [.int (n : Int)] H Q := by
 have hp := idx_at hn
 have lp := yD.mpr hn
 refine ⟨0, kl, _, _, fun u => eqV u (V.int (n : Int)), ks.idxOf n, V.int (n : Int), by decide, rfl, rfl, SqL.of hkl, fun u hu => ?_, by unfold nV; rw [zC, hp]; rfl, decide_eq_true rfl, fun m hm w hw => ?_, by omega, q⟩
 ·obtain ⟨k, _, rfl⟩ := zQ.mp hu
  exact .inr ⟨rfl, rfl, rfl⟩
 ·obtain ⟨k, hk, rfl⟩ := xO hw
  have := idx_first m hm k hk
  dsimp only
  rw [eqV_int]; exact decide_eq_false (by omega)
def spApart50 : Sp := fun vs H Q _ => ∃ dl kl ys ks, vs = [.ref dl, .ref kl] /\ H dl = some (.lst (ys.map fun y => V.ref y.1)) /\ DsAt H ys /\ DsLet ys /\ ys.length <= 64 /\ H kl = some (.lst (nV ks)) /\ ks.length <= 64 /\
 ∀ l zs H', Same H H' -> H l = none -> H' l = some (.lst (zs.map fun z => V.ref z.1)) -> DsAt H' zs -> zs.map (·.2) = (ys.map (·.2)).filterMap (Dd.ren ks) -> Q (.ref l) H'
def spRight50 (C : Addr) : Sp := fun vs H Q _ => ∃ u t s kl ks ys zs rooms tr tm ps n0, vs = [.ref u.x, .ref s, .ref kl] /\ TrOk C H u rooms tr tm ps n0 /\ n0 < 64 /\ SeenAt H s (snOf rooms.length t) /\ Sub ks t u /\ ks.Nodup /\ ks.length <= 41 /\ t.ls.length <= 41 /\ H kl = some (.lst (nV ks)) /\ t.ds = (ys.map fun y => V.ref y.1) /\ DsAt H ys /\ DsLet ys /\ ys.length <= 60 /\ u.ds = (zs.map fun z => V.ref z.1) /\ DsAt H zs /\ zs.map (·.2) = (ys.map (·.2)).filterMap (Dd.ren ks) /\ ∀ H', Same H H' -> Q (.bl true) H'
end Sm
set_option Elab.async false
set_option linter.all false
set_option maxRecDepth 100000
set_option maxHeartbeats 400000
namespace L2
open PySem PySem.Spec PyProof.Rows
section
variable {X : Cx} {pos : Pos}
def gTupL (K : PySem.W.Frag) (n : Nat) (t : TGs) : TG := fun v σ H Q => ∃ a xs, v = .ref a /\ SqL K H a xs /\ xs.length = n /\ t xs σ H Q
theorem pg_tupL {es : List Expr} {k : Nat} {t : TGs} {n : Nat} (hc : X.calm = true) (h : PGs X es t)
  (hn : (assignEach es X.env).length = n := by rfl) (hst : (assignEach es X.env).findIdx? (·.1) = none := by rfl) : PG X (.Tuple es k pos) (gTupL X.K n t) := by
 intro pins s σ H v u Q I r hw
 obtain ⟨a, xs, e1, hq, hl, hw⟩ := hw
 subst e1
 cases r
 obtain ⟨its, rv, ⟨o, m, ho, hcl, hd, hs⟩, hz⟩ := I.list hq
 have hl' : s.heap.IsList a its.toArray := ⟨o, ho, hcl, m, hs⟩
 rw [assign_Tuple]
 refine wpAny_bind (wpAny_standAt ?_)
 unfold unpack
 rw [hst, show (assignEach es X.env).length = its.toArray.size by simp [hn, <- hl, rv.length]]
 refine wpAny_bind (wpAny_holding (PySem.W.kun_itemsOf (I.ok.hd hc) hl' fun h' hx => ?_))
 have I1 : Inv X pins σ H { s with heap := h' } := I.kept (t' := s.toks) fun b o e => hx b o (zV (Heap.lt_size e)) e
 exact h pins _ σ H xs _ Q I1 (by simpa using rv) hw
end
end L2
namespace Sm
open PySem L2 SmSort
theorem eqv_deed {K : PySem.W.Frag} {H : Hp} {n : Nat} {a c : Addr} {d : Dd} (ha : H a = some (.tup d.vs)) (hc : H c = some (.tup d.vs)) : Eqv K H (n + 1) (.ref a) (.ref c) true := by
 refine eqv_tup ha hc rfl fun i x y hx hy => ?_
 rw [hx] at hy; cases hy
 have hm := zD hx
 have fl : ∀ x ∈ d.vs, flatV x = true /\ eqV x x = true := fun x hx => by
  cases d with
  | drop l w =>
   rcases zR.mp hx with rfl | hx
   ·exact ⟨rfl, by simp [eqV]⟩
   ·rcases zR.mp hx with rfl | hx
    ·exact ⟨rfl, decide_eq_true rfl⟩
    ·rcases zR.mp hx with rfl | hx
     ·exact ⟨rfl, decide_eq_true rfl⟩
     ·cases hx
  | pass gv m l g =>
   rcases zR.mp hx with rfl | hx
   ·exact ⟨rfl, by simp [eqV]⟩
   ·rcases zR.mp hx with rfl | hx
    ·exact ⟨rfl, decide_eq_true rfl⟩
    ·rcases zR.mp hx with rfl | hx
     ·exact ⟨rfl, decide_eq_true rfl⟩
     ·rcases zR.mp hx with rfl | hx
      ·exact ⟨rfl, decide_eq_true rfl⟩
      ·cases hx
 exact eqv_flat (fl x hm).1 (fl x hm).2
theorem eq_deeds {K : PySem.W.Frag} {H : Hp} {l d : Addr} {ys zs : List (Addr × Dd)} {Q : VK} (hl : H l = some (.lst (ys.map fun y => V.ref y.1))) (hd : H d = some (.lst (zs.map fun z => V.ref z.1))) (dy : DsAt H ys) (dz : DsAt H zs) (e : ys.map (·.2) = zs.map (·.2)) (q : Q (.bl true) H) : rEqv K false (.ref l) (.ref d) H Q := by
 refine ⟨1, l, d, _, _, fun _ => true, true, by decide, rfl, rfl, .inl ⟨SqL.of hl, SqL.of hd⟩, ?_, fun i x y hx hy => ?_, q⟩
 ·have := congrArg List.length e
  rw [zA, zA] at this
  simp [this]
 obtain ⟨u, h1, rfl⟩ := xO hx
 obtain ⟨v, h2, rfl⟩ := xO hy
 have eq : u.2 = v.2 := by
  have := congrArg (·[i]?) e
  simp only [zC, h1, h2, yA, Option.some.injEq] at this
  exact this
 have k1 := dy u (zD h1)
 have k2 := dz v (zD h2)
 rw [<- eq] at k2
 exact eqv_deed k1 k2
end Sm
namespace Sm
open PySem L2 SmSort
theorem RunOk.let {rooms : List Int} {ms : List M4} : ∀ {ys : List (Addr × Dd)} {t : Tr}, t.hs.length = t.ls.length -> RunOk rooms ms t ys -> DsLet ys
 | [], _, _, _ => fun _ z => nomatch z
 | y :: ys, t, lh, r => fun z hz => by
  obtain ⟨n, h, en, _, _, e⟩ := doneT_hs lh (.ref y.1) r.1
  rcases zR.mp hz with h1 | h1
  ·rw [h1]; exact ⟨n, en⟩
  ·refine RunOk.let (ys := ys) ?_ r.2 z h1
   have := congrArg List.length e
   rw [zA, zj, zA] at this
   rw [this, (doneT_ad t ms (.ref y.1) y.2).ls]; exact lh
theorem Purse.refs {H : Hp} {p l : Addr} {xs : List V} (pu : Purse H p) (h : H l = some (.lst xs)) (r : ∀ x ∈ xs, ∃ a, x = V.ref a) : l ≠ p := by
 rintro rfl
 obtain ⟨a, b, c, e⟩ := pu
 rw [e] at h
 cases h
 obtain ⟨x, hx⟩ := r _ (.head _)
 cases hx
theorem newTr_len (ls : List (Addr × L4)) (m : Nat) : (newTr ls m).hs.length = (newTr ls m).ls.length := by show (ls.map _).length = _; rw [zA]; rfl
end Sm
namespace Sm
open PySem L2 SmSort
section
variable {C : Addr} {H0 H : Hp} {t u : Tr} {rooms : List Int} {tr tm : Addr} {ps : List (Addr × M4)} {n0 n1 : Nat}
theorem Two.rebase (w : Two C H0 H t u rooms tr tm ps n0 n1) : Two C (cut (fun c => t.own c \/ u.own c) H) H t u rooms tr tm ps n0 n1 /\ Same H0 (cut (fun c => t.own c \/ u.own c) H) := by
 have no : ∀ c, t.own c \/ u.own c -> cut (fun c => t.own c \/ u.own c) H c = none := fun c z => by
  cases e : cut (fun c => t.own c \/ u.own c) H c with
  | none => rfl
  | some o => exact absurd z (cut_some.mp e).1
 refine ⟨⟨w.kt, w.ku, cut_le, fun c z => no c (.inl z), fun c z => no c (.inr z), w.dt, w.du⟩, fun c o e => cut_some.mpr ⟨fun z => ?_, w.sm c o e⟩⟩
 rcases z with z | z
 ·rw [w.ft c z] at e; cases e
 ·rw [w.fu c z] at e; cases e
theorem Two.notOwn (w : Two C H0 H t u rooms tr tm ps n0 n1) {c : Addr} (f : H c = none) : ¬ (t.own c \/ u.own c) := fun z => by
 rcases z with z | z
 ·obtain ⟨o, ho, _⟩ := w.kt.there (.inl z); rw [f] at ho; cases ho
 ·obtain ⟨o, ho, _⟩ := w.ku.there (.inl z); rw [f] at ho; cases ho
theorem Two.draw (w : Two C H0 H t u rooms tr tm ps n0 n1) {p : Addr} {H' : Hp} (pu : Purse H p) (g : Go p H H') (f : H0 p = none) (nt : ¬ (t.own p \/ p = t.lL \/ p = t.lH)) (nu : ¬ (u.own p \/ p = u.lL \/ p = u.lH)) : Two C H0 H' t u rooms tr tm ps n0 n1 := by
 obtain ⟨x, y, z, e⟩ := pu
 exact ⟨w.kt.butO g.1 e (by intro _ h; cases h) nt, w.ku.butO g.1 e (by intro _ h; cases h) nu, fun c o h => g.1 c o (yr h f) (w.sm c o h), w.ft, w.fu, w.dt, w.du⟩
end
end Sm
namespace Sm
open PySem L2 SmSort
theorem atI_end {xs : List V} {n : Nat} {x : V} (l : xs.length = n + 1) (h : xs[n]? = some x) : atI xs (-1) = some x := by
 have e : xs = xs.take n ++ [x] := by rw [<- xR h, <- l, z4]
 rw [e]; exact L2.atI_last _ _
end Sm
namespace Sm
open PySem L2
theorem line9 : 1002 <= sizeLine := by rw [sizeLine_eq]; decide
end Sm

set_option Elab.async false
set_option linter.all false
set_option maxRecDepth 100000
set_option maxHeartbeats 4000000

namespace Sm
open PySem L2
def top (i : Nat) : Stmt := PySem.Challenge.pw_satchelmeet_k50_whole_some_letters_alone.main.body.getD i (.Pass ⟨0, 0, 0, 0⟩)
abbrev s__law_purse : Stmt := top 33
abbrev s__law_take : Stmt := top 34
abbrev s__law_far : Stmt := top 35
abbrev s__law_rooms : Stmt := top 36
abbrev s__law_step : Stmt := top 37
abbrev xy : Stmt := top 38
abbrev s__law_book : Stmt := top 39
abbrev s__law_time : Stmt := top 40
abbrev s__law_letter : Stmt := top 41
abbrev wF : Stmt := top 42
abbrev s_is_whole : Stmt := top 20
abbrev s_is_within : Stmt := top 21
abbrev s_is_below : Stmt := top 22
abbrev xr : Stmt := top 24
abbrev s_is_walker : Stmt := top 25
abbrev s_other_at : Stmt := top 26
abbrev s_are_wholes : Stmt := top 31
abbrev s_is_passing : Stmt := top 29
abbrev s_is_drop : Stmt := top 30
abbrev wG : Stmt := inClass (top 28) 6
abbrev xt : Stmt := inClass (top 28) 11
abbrev xY : Stmt := inClass (top 28) 0
abbrev s_Trip_having : Stmt := inClass (top 28) 2
abbrev s_Trip_bag : Stmt := inClass (top 28) 3
abbrev s_Trip_come : Stmt := inClass (top 28) 4
abbrev s_Trip_done : Stmt := inClass (top 28) 5
abbrev x8 : Stmt := inClass (top 28) 9
abbrev s_Trip_need_drop : Stmt := inClass (top 28) 8
abbrev xu : Stmt := inClass (top 28) 7
abbrev s_Trip_pass_on : Stmt := inClass (top 28) 10
abbrev s_Trip_do : Stmt := inClass (top 28) 1
abbrev s__law_any : Stmt := top 43
abbrev s__law_wild : Stmt := top 44
abbrev s__law_likely : Stmt := top 45
abbrev s__law_noted : Stmt := top 46
abbrev s__law_does : Stmt := top 47
abbrev wA : Stmt := top 48
abbrev xp : Stmt := top 49
abbrev s__law_apart : Stmt := top 50
abbrev s__law_right : Stmt := top 51
abbrev s_law : Stmt := top 52
structure Ad where
 a__law_purse : Addr
 d__law_purse : FuncData
 a__law_take : Addr
 d__law_take : FuncData
 a__law_far : Addr
 d__law_far : FuncData
 a__law_rooms : Addr
 d__law_rooms : FuncData
 a__law_step : Addr
 d__law_step : FuncData
 a__law_meetings : Addr
 d__law_meetings : FuncData
 a__law_book : Addr
 d__law_book : FuncData
 a__law_time : Addr
 d__law_time : FuncData
 a__law_letter : Addr
 d__law_letter : FuncData
 a__law_letters : Addr
 d__law_letters : FuncData
 a_is_whole : Addr
 d_is_whole : FuncData
 a_is_within : Addr
 d_is_within : FuncData
 a_is_below : Addr
 d_is_below : FuncData
 a_is_meeting_number : Addr
 d_is_meeting_number : FuncData
 a_is_walker : Addr
 d_is_walker : FuncData
 a_other_at : Addr
 d_other_at : FuncData
 a_are_wholes : Addr
 d_are_wholes : FuncData
 a_is_passing : Addr
 d_is_passing : FuncData
 a_is_drop : Addr
 d_is_drop : FuncData
 a_Trip_takes_room : Addr
 d_Trip_takes_room : FuncData
 a_Trip_note_arrival : Addr
 d_Trip_note_arrival : FuncData
 a_Trip___init__ : Addr
 d_Trip___init__ : FuncData
 a_Trip_having : Addr
 d_Trip_having : FuncData
 a_Trip_bag : Addr
 d_Trip_bag : FuncData
 a_Trip_come : Addr
 d_Trip_come : FuncData
 a_Trip_done : Addr
 d_Trip_done : FuncData
 a_Trip_need_letter : Addr
 d_Trip_need_letter : FuncData
 a_Trip_need_drop : Addr
 d_Trip_need_drop : FuncData
 a_Trip_need_passing : Addr
 d_Trip_need_passing : FuncData
 a_Trip_pass_on : Addr
 d_Trip_pass_on : FuncData
 a_Trip_do : Addr
 d_Trip_do : FuncData
 a__law_any : Addr
 d__law_any : FuncData
 a__law_wild : Addr
 d__law_wild : FuncData
 a__law_likely : Addr
 d__law_likely : FuncData
 a__law_noted : Addr
 d__law_noted : FuncData
 a__law_does : Addr
 d__law_does : FuncData
 a__law_seen : Addr
 d__law_seen : FuncData
 a__law_told_here : Addr
 d__law_told_here : FuncData
 a__law_apart : Addr
 d__law_apart : FuncData
 a__law_right : Addr
 d__law_right : FuncData
 a_law : Addr
 d_law : FuncData
 c_HasIt : Addr
 c_MeetError : Addr
 c_NoBook : Addr
 c_NoClaim : Addr
 c_NoDay : Addr
 c_NoDeed : Addr
 c_NoLetter : Addr
 c_NoMeeting : Addr
 c_NoName : Addr
 c_NoPass : Addr
 c_NoRoom : Addr
 c_NoRow : Addr
 c_NoRule : Addr
 c_NoText : Addr
 c_NoWalker : Addr
 c_NotThere : Addr
 c_TooMany : Addr
 c_Trip : Addr
 c_Twice : Addr
structure Tx (K : PySem.W.Frag) (mg : Str -> Option Value) (a : Ad) : Prop where
 F__law_purse : Fun K "_law_purse" "_law_purse" s__law_purse a.a__law_purse a.d__law_purse
 i__law_purse : Binds K a.d__law_purse ["_law_script", "_law_k"] []
 m__law_purse : mg "_law_purse" = some (.ref a.a__law_purse)
 k__law_purse : zI K (.ref a.a__law_purse) = true
 F__law_take : Fun K "_law_take" "_law_take" s__law_take a.a__law_take a.d__law_take
 i__law_take : Binds K a.d__law_take ["_law_purse_here", "_law_many"] []
 m__law_take : mg "_law_take" = some (.ref a.a__law_take)
 k__law_take : zI K (.ref a.a__law_take) = true
 F__law_far : Fun K "_law_far" "_law_far" s__law_far a.a__law_far a.d__law_far
 i__law_far : Binds K a.d__law_far ["_law_purse_here"] []
 m__law_far : mg "_law_far" = some (.ref a.a__law_far)
 k__law_far : zI K (.ref a.a__law_far) = true
 F__law_rooms : Fun K "_law_rooms" "_law_rooms" s__law_rooms a.a__law_rooms a.d__law_rooms
 i__law_rooms : Binds K a.d__law_rooms ["_law_purse_here", "_law_walkers"] []
 m__law_rooms : mg "_law_rooms" = some (.ref a.a__law_rooms)
 k__law_rooms : zI K (.ref a.a__law_rooms) = true
 F__law_step : Fun K "_law_step" "_law_step" s__law_step a.a__law_step a.d__law_step
 i__law_step : Binds K a.d__law_step ["_law_purse_here"] []
 m__law_step : mg "_law_step" = some (.ref a.a__law_step)
 k__law_step : zI K (.ref a.a__law_step) = true
 F__law_meetings : Fun K "_law_meetings" "_law_meetings" xy a.a__law_meetings a.d__law_meetings
 i__law_meetings : Binds K a.d__law_meetings ["_law_purse_here", "_law_walkers", "_law_most"] []
 m__law_meetings : mg "_law_meetings" = some (.ref a.a__law_meetings)
 k__law_meetings : zI K (.ref a.a__law_meetings) = true
 F__law_book : Fun K "_law_book" "_law_book" s__law_book a.a__law_book a.d__law_book
 i__law_book : Binds K a.d__law_book ["_law_purse_here", "_law_most_walkers", "_law_most_meetings"] []
 m__law_book : mg "_law_book" = some (.ref a.a__law_book)
 k__law_book : zI K (.ref a.a__law_book) = true
 F__law_time : Fun K "_law_time" "_law_time" s__law_time a.a__law_time a.d__law_time
 i__law_time : Binds K a.d__law_time ["_law_purse_here", "_law_book_here", "_law_later"] []
 m__law_time : mg "_law_time" = some (.ref a.a__law_time)
 k__law_time : zI K (.ref a.a__law_time) = true
 F__law_letter : Fun K "_law_letter" "_law_letter" s__law_letter a.a__law_letter a.d__law_letter
 i__law_letter : Binds K a.d__law_letter ["_law_purse_here", "_law_book_here"] []
 m__law_letter : mg "_law_letter" = some (.ref a.a__law_letter)
 k__law_letter : zI K (.ref a.a__law_letter) = true
 F__law_letters : Fun K "_law_letters" "_law_letters" wF a.a__law_letters a.d__law_letters
 i__law_letters : Binds K a.d__law_letters ["_law_purse_here", "_law_book_here"] []
 m__law_letters : mg "_law_letters" = some (.ref a.a__law_letters)
 k__law_letters : zI K (.ref a.a__law_letters) = true
 F_is_whole : Fun K "is_whole" "is_whole" s_is_whole a.a_is_whole a.d_is_whole
 i_is_whole : Binds K a.d_is_whole ["thing"] []
 m_is_whole : mg "is_whole" = some (.ref a.a_is_whole)
 k_is_whole : zI K (.ref a.a_is_whole) = true
 F_is_within : Fun K "is_within" "is_within" s_is_within a.a_is_within a.d_is_within
 i_is_within : Binds K a.d_is_within ["thing", "least", "most"] []
 m_is_within : mg "is_within" = some (.ref a.a_is_within)
 k_is_within : zI K (.ref a.a_is_within) = true
 F_is_below : Fun K "is_below" "is_below" s_is_below a.a_is_below a.d_is_below
 i_is_below : Binds K a.d_is_below ["number", "bound"] []
 m_is_below : mg "is_below" = some (.ref a.a_is_below)
 k_is_below : zI K (.ref a.a_is_below) = true
 F_is_meeting_number : Fun K "is_meeting_number" "is_meeting_number" xr a.a_is_meeting_number a.d_is_meeting_number
 i_is_meeting_number : Binds K a.d_is_meeting_number ["book", "thing"] []
 m_is_meeting_number : mg "is_meeting_number" = some (.ref a.a_is_meeting_number)
 k_is_meeting_number : zI K (.ref a.a_is_meeting_number) = true
 F_is_walker : Fun K "is_walker" "is_walker" s_is_walker a.a_is_walker a.d_is_walker
 i_is_walker : Binds K a.d_is_walker ["book", "thing"] []
 m_is_walker : mg "is_walker" = some (.ref a.a_is_walker)
 k_is_walker : zI K (.ref a.a_is_walker) = true
 F_other_at : Fun K "other_at" "other_at" s_other_at a.a_other_at a.d_other_at
 i_other_at : Binds K a.d_other_at ["book", "number", "walker"] []
 m_other_at : mg "other_at" = some (.ref a.a_other_at)
 k_other_at : zI K (.ref a.a_other_at) = true
 F_are_wholes : Fun K "are_wholes" "are_wholes" s_are_wholes a.a_are_wholes a.d_are_wholes
 i_are_wholes : Binds K a.d_are_wholes ["things"] []
 m_are_wholes : mg "are_wholes" = some (.ref a.a_are_wholes)
 k_are_wholes : zI K (.ref a.a_are_wholes) = true
 F_is_passing : Fun K "is_passing" "is_passing" s_is_passing a.a_is_passing a.d_is_passing
 i_is_passing : Binds K a.d_is_passing ["thing"] []
 m_is_passing : mg "is_passing" = some (.ref a.a_is_passing)
 k_is_passing : zI K (.ref a.a_is_passing) = true
 F_is_drop : Fun K "is_drop" "is_drop" s_is_drop a.a_is_drop a.d_is_drop
 i_is_drop : Binds K a.d_is_drop ["thing"] []
 m_is_drop : mg "is_drop" = some (.ref a.a_is_drop)
 k_is_drop : zI K (.ref a.a_is_drop) = true
 F_Trip_takes_room : Fun K "takes_room" "Trip.takes_room" wG a.a_Trip_takes_room a.d_Trip_takes_room
 i_Trip_takes_room : Binds K a.d_Trip_takes_room ["self", "letter", "walker"] []
 M_Trip_takes_room : Meth K a.c_Trip "takes_room" a.a_Trip_takes_room
 k_Trip_takes_room : zI K (.ref a.a_Trip_takes_room) = true
 F_Trip_note_arrival : Fun K "note_arrival" "Trip.note_arrival" xt a.a_Trip_note_arrival a.d_Trip_note_arrival
 i_Trip_note_arrival : Binds K a.d_Trip_note_arrival ["self", "letter", "walker", "time"] []
 M_Trip_note_arrival : Meth K a.c_Trip "note_arrival" a.a_Trip_note_arrival
 k_Trip_note_arrival : zI K (.ref a.a_Trip_note_arrival) = true
 F_Trip___init__ : Fun K "__init__" "Trip.__init__" xY a.a_Trip___init__ a.d_Trip___init__
 i_Trip___init__ : Binds K a.d_Trip___init__ ["self", "book", "letters"] []
 M_Trip___init__ : Meth K a.c_Trip "__init__" a.a_Trip___init__
 k_Trip___init__ : zI K (.ref a.a_Trip___init__) = true
 F_Trip_having : Fun K "having" "Trip.having" s_Trip_having a.a_Trip_having a.d_Trip_having
 i_Trip_having : Binds K a.d_Trip_having ["self", "letter"] []
 M_Trip_having : Meth K a.c_Trip "having" a.a_Trip_having
 k_Trip_having : zI K (.ref a.a_Trip_having) = true
 F_Trip_bag : Fun K "bag" "Trip.bag" s_Trip_bag a.a_Trip_bag a.d_Trip_bag
 i_Trip_bag : Binds K a.d_Trip_bag ["self", "walker"] []
 M_Trip_bag : Meth K a.c_Trip "bag" a.a_Trip_bag
 k_Trip_bag : zI K (.ref a.a_Trip_bag) = true
 F_Trip_come : Fun K "come" "Trip.come" s_Trip_come a.a_Trip_come a.d_Trip_come
 i_Trip_come : Binds K a.d_Trip_come ["self", "letter"] []
 M_Trip_come : Meth K a.c_Trip "come" a.a_Trip_come
 k_Trip_come : zI K (.ref a.a_Trip_come) = true
 F_Trip_done : Fun K "done" "Trip.done" s_Trip_done a.a_Trip_done a.d_Trip_done
 i_Trip_done : Binds K a.d_Trip_done ["self"] []
 M_Trip_done : Meth K a.c_Trip "done" a.a_Trip_done
 k_Trip_done : zI K (.ref a.a_Trip_done) = true
 F_Trip_need_letter : Fun K "need_letter" "Trip.need_letter" x8 a.a_Trip_need_letter a.d_Trip_need_letter
 i_Trip_need_letter : Binds K a.d_Trip_need_letter ["self", "letter"] []
 M_Trip_need_letter : Meth K a.c_Trip "need_letter" a.a_Trip_need_letter
 k_Trip_need_letter : zI K (.ref a.a_Trip_need_letter) = true
 F_Trip_need_drop : Fun K "need_drop" "Trip.need_drop" s_Trip_need_drop a.a_Trip_need_drop a.d_Trip_need_drop
 i_Trip_need_drop : Binds K a.d_Trip_need_drop ["self", "letter", "walker"] []
 M_Trip_need_drop : Meth K a.c_Trip "need_drop" a.a_Trip_need_drop
 k_Trip_need_drop : zI K (.ref a.a_Trip_need_drop) = true
 F_Trip_need_passing : Fun K "need_passing" "Trip.need_passing" xu a.a_Trip_need_passing a.d_Trip_need_passing
 i_Trip_need_passing : Binds K a.d_Trip_need_passing ["self", "meeting", "letter", "giver"] []
 M_Trip_need_passing : Meth K a.c_Trip "need_passing" a.a_Trip_need_passing
 k_Trip_need_passing : zI K (.ref a.a_Trip_need_passing) = true
 F_Trip_pass_on : Fun K "pass_on" "Trip.pass_on" s_Trip_pass_on a.a_Trip_pass_on a.d_Trip_pass_on
 i_Trip_pass_on : Binds K a.d_Trip_pass_on ["self", "meeting", "letter", "giver"] []
 M_Trip_pass_on : Meth K a.c_Trip "pass_on" a.a_Trip_pass_on
 k_Trip_pass_on : zI K (.ref a.a_Trip_pass_on) = true
 F_Trip_do : Fun K "do" "Trip.do" s_Trip_do a.a_Trip_do a.d_Trip_do
 i_Trip_do : Binds K a.d_Trip_do ["self", "deed"] []
 M_Trip_do : Meth K a.c_Trip "do" a.a_Trip_do
 k_Trip_do : zI K (.ref a.a_Trip_do) = true
 F__law_any : Fun K "_law_any" "_law_any" s__law_any a.a__law_any a.d__law_any
 i__law_any : Binds K a.d__law_any ["_law_purse_here", "_law_many"] []
 m__law_any : mg "_law_any" = some (.ref a.a__law_any)
 k__law_any : zI K (.ref a.a__law_any) = true
 F__law_wild : Fun K "_law_wild" "_law_wild" s__law_wild a.a__law_wild a.d__law_wild
 i__law_wild : Binds K a.d__law_wild ["_law_purse_here", "_law_book_here", "_law_many"] []
 m__law_wild : mg "_law_wild" = some (.ref a.a__law_wild)
 k__law_wild : zI K (.ref a.a__law_wild) = true
 F__law_likely : Fun K "_law_likely" "_law_likely" s__law_likely a.a__law_likely a.d__law_likely
 i__law_likely : Binds K a.d__law_likely ["_law_purse_here", "_law_book_here", "_law_holders", "_law_at"] []
 m__law_likely : mg "_law_likely" = some (.ref a.a__law_likely)
 k__law_likely : zI K (.ref a.a__law_likely) = true
 F__law_noted : Fun K "_law_noted" "_law_noted" s__law_noted a.a__law_noted a.d__law_noted
 i__law_noted : Binds K a.d__law_noted ["_law_book_here", "_law_holders", "_law_deed"] []
 m__law_noted : mg "_law_noted" = some (.ref a.a__law_noted)
 k__law_noted : zI K (.ref a.a__law_noted) = true
 F__law_does : Fun K "_law_does" "_law_does" s__law_does a.a__law_does a.d__law_does
 i__law_does : Binds K a.d__law_does ["_law_trip", "_law_deed"] []
 m__law_does : mg "_law_does" = some (.ref a.a__law_does)
 k__law_does : zI K (.ref a.a__law_does) = true
 F__law_seen : Fun K "_law_seen" "_law_seen" wA a.a__law_seen a.d__law_seen
 i__law_seen : Binds K a.d__law_seen ["_law_trip", "_law_book_here", "_law_many"] []
 m__law_seen : mg "_law_seen" = some (.ref a.a__law_seen)
 k__law_seen : zI K (.ref a.a__law_seen) = true
 F__law_told_here : Fun K "_law_told_here" "_law_told_here" xp a.a__law_told_here a.d__law_told_here
 i__law_told_here : Binds K a.d__law_told_here ["_law_script", "_law_book_here", "_law_letters_here"] []
 m__law_told_here : mg "_law_told_here" = some (.ref a.a__law_told_here)
 k__law_told_here : zI K (.ref a.a__law_told_here) = true
 F__law_apart : Fun K "_law_apart" "_law_apart" s__law_apart a.a__law_apart a.d__law_apart
 i__law_apart : Binds K a.d__law_apart ["_law_deeds", "_law_kept"] []
 m__law_apart : mg "_law_apart" = some (.ref a.a__law_apart)
 k__law_apart : zI K (.ref a.a__law_apart) = true
 F__law_right : Fun K "_law_right" "_law_right" s__law_right a.a__law_right a.d__law_right
 i__law_right : Binds K a.d__law_right ["_law_second", "_law_seen_here", "_law_kept"] []
 m__law_right : mg "_law_right" = some (.ref a.a__law_right)
 k__law_right : zI K (.ref a.a__law_right) = true
 F_law : Fun K "law" "law" s_law a.a_law a.d_law
 i_law : Binds K a.d_law ["_law_script"] []
 m_law : mg "law" = some (.ref a.a_law)
 k_law : zI K (.ref a.a_law) = true
 b_ValueError : mg "ValueError" = none
 b_all : mg "all" = none
 b_bool : mg "bool" = none
 b_enumerate : mg "enumerate" = none
 b_int : mg "int" = none
 b_isinstance : mg "isinstance" = none
 b_len : mg "len" = none
 b_list : mg "list" = none
 b_max : mg "max" = none
 b_min : mg "min" = none
 b_range : mg "range" = none
 b_sorted : mg "sorted" = none
 b_tuple : mg "tuple" = none
 m_HasIt : mg "HasIt" = some (.ref a.c_HasIt)
 m_MeetError : mg "MeetError" = some (.ref a.c_MeetError)
 m_NoBook : mg "NoBook" = some (.ref a.c_NoBook)
 m_NoClaim : mg "NoClaim" = some (.ref a.c_NoClaim)
 m_NoDay : mg "NoDay" = some (.ref a.c_NoDay)
 m_NoDeed : mg "NoDeed" = some (.ref a.c_NoDeed)
 m_NoLetter : mg "NoLetter" = some (.ref a.c_NoLetter)
 m_NoMeeting : mg "NoMeeting" = some (.ref a.c_NoMeeting)
 m_NoName : mg "NoName" = some (.ref a.c_NoName)
 m_NoPass : mg "NoPass" = some (.ref a.c_NoPass)
 m_NoRoom : mg "NoRoom" = some (.ref a.c_NoRoom)
 m_NoRow : mg "NoRow" = some (.ref a.c_NoRow)
 m_NoRule : mg "NoRule" = some (.ref a.c_NoRule)
 m_NoText : mg "NoText" = some (.ref a.c_NoText)
 m_NoWalker : mg "NoWalker" = some (.ref a.c_NoWalker)
 m_NotThere : mg "NotThere" = some (.ref a.c_NotThere)
 m_TooMany : mg "TooMany" = some (.ref a.c_TooMany)
 m_Trip : mg "Trip" = some (.ref a.c_Trip)
 m_Twice : mg "Twice" = some (.ref a.c_Twice)
 x_NoDeed : XCls K a.c_NoDeed
 x_NoMeeting : XCls K a.c_NoMeeting
 x_NoLetter : XCls K a.c_NoLetter
 x_NoWalker : XCls K a.c_NoWalker
 x_NotThere : XCls K a.c_NotThere
 x_HasIt : XCls K a.c_HasIt
 x_NoPass : XCls K a.c_NoPass
 x_NoRoom : XCls K a.c_NoRoom
 L_Trip : Cls K a.c_Trip
 Y_Trip : L2.Mk K a.c_Trip a.a_Trip___init__
 n_Trip_book : NoAttr K a.c_Trip "book"
 n_Trip_letters : NoAttr K a.c_Trip "letters"
 n_Trip_holders : NoAttr K a.c_Trip "holders"
 n_Trip_arrivals : NoAttr K a.c_Trip "arrivals"
 n_Trip_passed : NoAttr K a.c_Trip "passed"
 n_Trip_reached : NoAttr K a.c_Trip "reached"
 n_Trip_deeds : NoAttr K a.c_Trip "deeds"
 f_xc : xcB K ⟨a.c_NoDeed, a.c_NoMeeting, a.c_NoLetter, a.c_NoWalker, a.c_NotThere, a.c_HasIt, a.c_NoPass, a.c_NoRoom⟩ a.c_MeetError [a.c_NoBook, a.c_NoRule, a.c_TooMany, a.c_NoDay, a.c_NoClaim, a.c_NoText, a.c_NoRow, a.c_NoName, a.c_Twice] = true
section
variable {P : Program} {w : World} {K : PySem.W.Frag} {mg : Str -> Option Value} {base : Heap} {a : Ad}
theorem sc__law_purse : FnScope ["_law_script", "_law_k", "_law_cell", "_law_left"] ["_law_script", "_law_k"] (defScope s__law_purse) := ⟨rfl, rfl, rfl, by decide +kernel, rfl, by decide +kernel, by decide +kernel⟩
theorem ok__law_purse (T : Tx K mg a) : FnOk P w K mg base CX0 1 a.a__law_purse a.d__law_purse ["_law_script", "_law_k"] (spPurse K) := by
 refine T.F__law_purse.ok sc__law_purse (fun vs H Q E h => ?_) (fun cdv A outer s H vs Q E hr h => ?_)
 ·obtain ⟨a, ns, k, rfl, _⟩ := h; rfl
 ·have nd := sc__law_purse.nd
  have hu := hr.units
  obtain ⟨sa, ns, k, rfl, hS, hk, q⟩ := h
  refine ⟨_, (yw (xC (xB (i := 2) nd rfl (by first | exact Or.inl rfl | exact Or.inr rfl) yq) (xC (xL (xA op_lt (pv 1) (yz (y6 rfl) (by rfl) T.b_len PySem.boot_len (yl (yo (pv 0) yu rfl))) (nomark _)) (yw (xK (xB (i := 2) nd rfl (by first | exact Or.inl rfl | exact Or.inr rfl) (xD (xG rfl) (pv 0) (pv 1) (fun _ _ => rfl))))) xE) (xC (xB (i := 3) nd rfl (by first | exact Or.inl rfl | exact Or.inr rfl) yq) (xC (xL (xA op_lt (pv 2) yq (nomark _)) (yw (xK (xB (i := 3) nd rfl (by first | exact Or.inl rfl | exact Or.inr rfl) (xI op_sub (pe_un un_neg yq) (pv 2))))) xE) (xC (xL (xA op_ge (pv 2) (xI op_pow yq yq) (nomark _)) (yw (xK (xB (i := 3) nd rfl (by first | exact Or.inl rfl | exact Or.inr rfl) (pv 2)))) xE) (xK (xJ (xS (yl (yo (pv 3) (yo (xI op_mod (xI xV (xI xV (xI op_mul (pv 2) yq) (xI op_mul (pv 1) yq)) yq) yq) (yo yq yu rfl) rfl) rfl))))))))))), ?_⟩
  have c18 : CPow 10 18 := ⟨by decide, by decide, by decide⟩
  have s3 : 3 <= sizeLine := by rw [sizeLine_eq]; decide
  have fin : ∀ (x y : Int) p, H p = none -> Q (.ref p) (upd H p (.lst [.int x, .int y, .int 0])) := fun x y p hp => q p _ hp ⟨x, y, 0, yn⟩ (yt hp)
  have c69 : ∀ x : Int, CMul x 69 := fun x => .inr ⟨by decide, by decide⟩
  have c405 : ∀ x : Int, CMul x 40503 := fun x => .inr ⟨by decide, by decide⟩
  refine ⟨_, rfl, _, rfl, sa, _, rfl, .inl hS, _, _, rfl, rfl, _, rfl, iteN (fun σ H1 => ∃ c : Int, σ = [some (.ref sa), some (.int k), some (.int c), none] /\ H = H1) ?_ (fun c k0 => ?_) (fun c => ⟨0, rfl, rfl⟩)⟩
  ·rintro σ H1 ⟨c, rfl, rfl⟩
   refine ⟨_, rfl, _, _, rfl, rfl, _, rfl, iteN (fun σ H1 => ∃ d : Int, σ = [some (.ref sa), some (.int k), some (.int c), some (.int d)] /\ H = H1) ?_ (fun z k0 => ?_) (fun z => ⟨0, rfl, rfl⟩)⟩
   ·rintro σ H1 ⟨d, rfl, rfl⟩
    refine ⟨_, rfl, _, _, rfl, rfl, c18, _, _, rfl, rfl, _, rfl, iteN (fun σ H1 => ∃ d : Int, σ = [some (.ref sa), some (.int k), some (.int c), some (.int d)] /\ H = H1) ?_ (fun z k0 => ⟨_, rfl, k0 _ _ ⟨c, rfl, rfl⟩⟩) (fun z => ⟨d, rfl, rfl⟩)⟩
    rintro σ H1 ⟨d, rfl, rfl⟩
    exact ⟨_, rfl, _, rfl, _, _, rfl, rfl, c69 _, _, rfl, _, _, rfl, rfl, c405 _, _, _, rfl, rfl, _, _, rfl, rfl, _, _, rfl, rfl, (by show (0 : Int) < 2147483647; decide), s3, fin _ _⟩
   ·exact ⟨_, rfl, _, rfl, _, _, rfl, rfl, k0 _ _ ⟨_, rfl, rfl⟩⟩
  ·have hk2 : k < ns.length := by
    have := of_decide_eq_true c
    rw [zA] at this; omega
   exact ⟨_, rfl, _, rfl, sa, _, _, _, rfl, rfl, hS, xM (v := V.int ns[k]) (by simp [hk2]), k0 _ _ ⟨_, rfl, rfl⟩⟩
theorem sc__law_take : FnScope ["_law_purse_here", "_law_many", "_law_digit", "_law_mixed"] ["_law_purse_here", "_law_many"] (defScope s__law_take) := ⟨rfl, rfl, rfl, by decide +kernel, rfl, by decide +kernel, by decide +kernel⟩
theorem xN (T : Tx K mg a) : FnOk P w K mg base CX0 1 a.a__law_take a.d__law_take ["_law_purse_here", "_law_many"] (spTake) := by
 refine T.F__law_take.ok sc__law_take (fun vs H Q E h => ?_) (fun cdv A outer s H vs Q E hr h => ?_)
 ·obtain ⟨p, n, rfl, _⟩ := h; rfl
 ·have nd := sc__law_take.nd
  have hu := hr.units
  obtain ⟨p, n, rfl, n0, n1, ⟨x, y, z, hp⟩, q⟩ := h
  refine ⟨_, (yw (xC (xL (xA op_gt (xD (xG rfl) (pv 0) yq (fun _ _ => rfl)) yq (nomark _)) (yw (xC (xB (i := 2) nd rfl (by first | exact Or.inl rfl | exact Or.inr rfl) (xI op_mod (xD (xG rfl) (pv 0) yq (fun _ _ => rfl)) (pv 1))) (xC (ps_asg (xI op_fdivB (xD (xG rfl) (pv 0) yq (fun _ _ => rfl)) (pv 1)) (pg_sub (pv 0) yq set_list)) (xK (xJ (pv 2)))))) xE) (xC (ps_augS (pv 0) yq (get_list rfl) yq ip_add set_list) (xC (xB (i := 3) nd rfl (by first | exact Or.inl rfl | exact Or.inr rfl) (xI op_mod (xI op_mul (xI xV (xD (xG rfl) (pv 0) yq (fun _ _ => rfl)) (xI op_mul (xD (xG rfl) (pv 0) yq (fun _ _ => rfl)) yq)) yq) yq)) (xC (xB (i := 3) nd rfl (by first | exact Or.inl rfl | exact Or.inr rfl) (xI op_mod (xI xV (xI xV (xI op_mul (pv 3) (pv 3)) (xI op_mul (xD (xG rfl) (pv 0) yq (fun _ _ => rfl)) yq)) (xD (xG rfl) (pv 0) yq (fun _ _ => rfl))) yq)) (xK (xJ (xI op_mod (xI op_fdivB (xI op_mod (xI op_mul (pv 3) yq) yq) yq) (pv 1))))))))), ?_⟩
  have hS : SqL K H p _ := SqL.of hp
  have cm : ∀ x c : Int, -(2 ^ 64) < c -> c < 2 ^ 64 -> CMul x c := fun x c h h' => .inr ⟨h, h'⟩
  refine ⟨_, rfl, p, _, _, _, rfl, rfl, hS, rfl, _, _, rfl, rfl, _, rfl, iteD (fun h1 => ?_) fun h1 => ?_⟩
  ·refine ⟨_, rfl, p, _, _, _, rfl, rfl, hS, rfl, _, rfl, _, _, rfl, rfl, n0, ?_⟩
   refine ⟨_, rfl, p, _, _, _, rfl, rfl, hS, rfl, _, rfl, _, _, rfl, rfl, ⟨n0, n1⟩, _, rfl, p, _, _, 0, rfl, rfl, hp, rfl, ?_⟩
   exact ⟨_, rfl, q _ _ (yX _ (by omega)) (yJ _ n0) ⟨But.set, _, _, _, yn⟩⟩
  ·refine ⟨_, rfl, p, _, _, _, rfl, rfl, hS, rfl, _, _, rfl, rfl, p, _, _, 2, rfl, rfl, hp, rfl, ?_⟩
   have h2 : (upd H p (HO.lst ([V.int x, V.int y, V.int z].set 2 (.int (z + 1))))) p = some (.lst [V.int x, V.int y, V.int (z + 1)]) := yn
   have b2 : But p H (upd H p (HO.lst ([V.int x, V.int y, V.int z].set 2 (.int (z + 1))))) := But.set
   generalize upd H p (HO.lst ([V.int x, V.int y, V.int z].set 2 (.int (z + 1)))) = H2 at h2 b2 ⊢
   have hS2 : SqL K H2 p _ := SqL.of h2
   have big : (2147483647 : Int) < 2 ^ 64 := by decide
   have low : -(2 : Int) ^ 64 < 0 := by decide
   have pos : (0 : Int) < 2147483647 := by decide
   refine ⟨_, rfl, p, _, _, _, rfl, rfl, hS2, rfl, _, rfl, p, _, _, _, rfl, rfl, hS2, rfl, _, _, rfl, rfl, cm _ _ (by decide) (by decide), _, _, rfl, rfl, _, _, rfl, rfl, cm _ _ (by decide) (by decide), _, _, rfl, rfl, (by show (0 : Int) < 2147483647; decide), ?_⟩
   have m0 := yX ((y + (z + 1) * 362437) * 48271) (show (2147483647 : Int) ≠ 0 by decide)
   have m1 := yJ ((y + (z + 1) * 362437) * 48271) pos
   refine ⟨_, rfl, _, rfl, _, _, rfl, rfl, .inl ⟨Int.lt_of_lt_of_le low m0, Int.lt_trans m1 big⟩, _, rfl, p, _, _, _, rfl, rfl, hS2, rfl, _, _, rfl, rfl, cm _ _ (by decide) (by decide), _, _, rfl, rfl, _, rfl, p, _, _, _, rfl, rfl, hS2, rfl, _, _, rfl, rfl, _, _, rfl, rfl, (by show (0 : Int) < 2147483629; decide), ?_⟩
   refine ⟨_, rfl, _, _, rfl, rfl, cm _ _ (by decide) (by decide), _, _, rfl, rfl, (by show (0 : Int) < 2147483563; decide), _, _, rfl, rfl, ⟨by decide, by decide⟩, _, rfl, _, _, rfl, rfl, n0, ?_⟩
   exact q _ _ (yX _ (by omega)) (yJ _ n0) ⟨b2, _, _, _, h2⟩
theorem sc__law_far : FnScope ["_law_purse_here", "_law_high"] ["_law_purse_here"] (defScope s__law_far) := ⟨rfl, rfl, rfl, by decide +kernel, rfl, by decide +kernel, by decide +kernel⟩
theorem ok__law_far (T : Tx K mg a) : FnOk P w K mg base CX0 2 a.a__law_far a.d__law_far ["_law_purse_here"] (spFar) := by
 have G__law_take := @xN P w _ _ base _ T
 refine T.F__law_far.ok sc__law_far (fun vs H Q E h => ?_) (fun cdv A outer s H vs Q E hr h => ?_)
 ·obtain ⟨p, rfl, _⟩ := h; rfl
 ·have nd := sc__law_far.nd
  have hu := hr.units
  obtain ⟨p, rfl, hp, q⟩ := h
  refine ⟨_, (yw (xC (xB (i := 1) nd rfl (by first | exact Or.inl rfl | exact Or.inr rfl) (yx G__law_take (hr.mono (by decide)) rfl T.m__law_take T.k__law_take T.i__law_take .nil pass0 (yl (yo (pv 0) (yo yq yu rfl) rfl)))) (xK (xJ (xI op_mod (xI xV (xI op_mul (pv 1) yq) (yx G__law_take (hr.mono (by decide)) rfl T.m__law_take T.k__law_take T.i__law_take .nil pass0 (yl (yo (pv 0) (yo yq yu rfl) rfl)))) (xI xV (xI op_pow yq yq) yq)))))), ?_⟩
  refine ⟨_, rfl, p, _, rfl, by decide, by decide, hp, fun d H1 d0 d1 g1 => ⟨_, rfl, _, _, rfl, rfl, .inr ⟨by decide, by decide⟩, _, rfl, p, _, rfl, by decide, by decide, g1.2, fun e H2 e0 e1 g2 => ⟨_, _, rfl, rfl, _, _, rfl, rfl, ⟨by decide, by decide, by decide⟩, _, _, rfl, rfl, _, _, rfl, rfl, (by show (0 : Int) < 10 ^ Int.toNat 9 + 1; decide), ?_⟩⟩⟩
  have e9 : (10 : Int) ^ Int.toNat 9 + 1 = 1000000001 := by decide
  rw [e9]
  exact q _ _ (yX _ (by decide)) (Int.lt_add_one_iff.mp (yJ _ (by decide))) (g1.trans g2)
theorem sc__law_rooms : FnScope ["_law_purse_here", "_law_walkers", "_law_rooms_here", "_law_walker", "_law_room"] ["_law_purse_here", "_law_walkers"] (defScope s__law_rooms) := ⟨rfl, rfl, rfl, by decide +kernel, rfl, by decide +kernel, by decide +kernel⟩
theorem ok__law_rooms (T : Tx K mg a) : FnOk P w K mg base CX0 2 a.a__law_rooms a.d__law_rooms ["_law_purse_here", "_law_walkers"] (spRooms) := by
 have G__law_take := @xN P w _ _ base _ T
 refine T.F__law_rooms.ok sc__law_rooms (fun vs H Q E h => ?_) (fun cdv A outer s H vs Q E hr h => ?_)
 ·obtain ⟨p, n, rfl, _⟩ := h; rfl
 ·have nd := sc__law_rooms.nd
  have hu := hr.units
  obtain ⟨p, n, rfl, hn, hp, q⟩ := h
  refine ⟨_, (yw (xC (xB (i := 2) nd rfl (by first | exact Or.inl rfl | exact Or.inr rfl) (xS wB)) (xC (ps_for PassesOwn.never rfl (xl rfl T.b_range (yl (yo (pv 1) yu rfl))) (y8 (i := 3) nd rfl (by first | exact Or.inl rfl | exact Or.inr rfl)) (yw (xC (xB (i := 4) nd rfl (by first | exact Or.inl rfl | exact Or.inr rfl) (xI op_fdivB (yx G__law_take (hr.mono (by decide)) rfl T.m__law_take T.k__law_take T.i__law_take .nil pass0 (yl (yo (pv 0) (yo yq yu rfl) rfl))) yq)) (xC (xL (xA xg (pv 4) yq (nomark _)) (yw (xK (xB (i := 4) nd rfl (by first | exact Or.inl rfl | exact Or.inr rfl) (yx G__law_take (hr.mono (by decide)) rfl T.m__law_take T.k__law_take T.i__law_take .nil pass0 (yl (yo (pv 0) (yo yq yu rfl) rfl)))))) xE) (xK (xX (pe_bm zX zl zm mt_append (pv 2) (yl (yo (pv 4) yu rfl))))))))) (xK (xJ (pe_callTy (call_tuple_of) (by rfl) T.b_tuple PyProof.Rows.boot_tuple (yl (yo (pv 2) yu rfl)))))))), ?_⟩
  have line : 1001 <= sizeLine := by rw [sizeLine_eq]; decide
  refine ⟨zb _, fun l hl => ?_⟩
  have npl := hp.ne hl
  refine ⟨_, rfl, _, rfl, by omega, by omega, ?_⟩
  refine for_range (lo := 0) (n := n) (fun i σ H2 => ∃ v3 v4 rs, σ = [some (.ref p), some (.int n), some (.ref l), v3, v4] /\ H2 l = some (.lst (List.map V.int rs)) /\ rs.length = i /\ (∀ r ∈ rs, (0 : Int) <= r /\ r <= 99) /\ Go p H H2)
   ⟨_, _, [], rfl, yn, rfl, (fun _ z => nomatch z), (Go.refl hp).new hl⟩ ?_ ?_
  ·rintro i σ H2 hi ⟨v3, v4, rs, rfl, h2, hlen, hr, go⟩
   refine ⟨_, rfl, p, _, rfl, by decide, by decide, go.2, fun d H3 d0 d1 g3 => ⟨_, _, rfl, rfl, ⟨by decide, by decide⟩, ?_⟩⟩
   refine ⟨_, rfl, rfl, _, rfl, iteN (fun σ H4 => ∃ x : Int, σ = [some (.ref p), some (.int n), some (.ref l), some (.int (0 + (i : Int))), some (.int x)] /\ 0 <= x /\ x <= 99 /\ Go p H2 H4) ?_ (fun c k0 => ⟨_, rfl, p, _, rfl, by decide, by decide, g3.2, fun e H4 e0 e1 g4 => k0 _ _ ⟨e, rfl, e0, by omega, g3.trans g4⟩⟩) (fun c => ⟨_, rfl, by omega, by omega, g3⟩)⟩
   rintro σ H4 ⟨x, rfl, x0, x1, g4⟩
   have h4 := g4.1 l _ npl h2
   refine ⟨_, rfl, .inl ⟨rfl, _, SqL.of h4⟩, _, rfl, l, _, _, rfl, rfl, h4, by rw [zA]; omega, _, _, rs ++ [x], rfl, by rw [yn, zL]; rfl, by simp [hlen], fun r hr' => ?_, ?_⟩
   ·rcases zZ.mp hr' with h | h
    ·exact hr r h
    ·cases zM.mp h; exact ⟨x0, x1⟩
   ·have g2 := go.trans g4
    refine ⟨fun b u nb e => ?_, ?_⟩
    ·rw [yy (yr e hl)]; exact g2.1 b u nb e
    ·obtain ⟨a, b, c, e⟩ := g2.2
     exact ⟨a, b, c, by rw [yy npl.symm]; exact e⟩
  ·rintro σ H2 ⟨v3, v4, rs, rfl, h2, hlen, hr, go⟩
   exact ⟨_, rfl, l, _, rfl, .inl ⟨SqL.of h2, fun t ht => q t rs _ (go.new ht) yn hlen hr⟩⟩
theorem sc__law_step : FnScope ["_law_purse_here", "_law_way"] ["_law_purse_here"] (defScope s__law_step) := ⟨rfl, rfl, rfl, by decide +kernel, rfl, by decide +kernel, by decide +kernel⟩
theorem ok__law_step (T : Tx K mg a) : FnOk P w K mg base CX0 2 a.a__law_step a.d__law_step ["_law_purse_here"] (spStep) := by
 have G__law_take := @xN P w _ _ base _ T
 refine T.F__law_step.ok sc__law_step (fun vs H Q E h => ?_) (fun cdv A outer s H vs Q E hr h => ?_)
 ·obtain ⟨p, rfl, _⟩ := h; rfl
 ·have nd := sc__law_step.nd
  have hu := hr.units
  obtain ⟨p, rfl, hp, q⟩ := h
  refine ⟨_, (yw (xC (xB (i := 1) nd rfl (by first | exact Or.inl rfl | exact Or.inr rfl) (yx G__law_take (hr.mono (by decide)) rfl T.m__law_take T.k__law_take T.i__law_take .nil pass0 (yl (yo (pv 0) (yo yq yu rfl) rfl)))) (xC (xL (xA op_lt (pv 1) yq (nomark _)) (yw (xK (xJ (xD (xG rfl) (xS (yl (yo yq (yo yq (yo yq yu rfl) rfl) rfl))) (pv 1) (fun _ _ => rfl))))) xE) (xC (xL (xA xg (pv 1) yq (nomark _)) (yw (xK (xJ (xI xV yq (yx G__law_take (hr.mono (by decide)) rfl T.m__law_take T.k__law_take T.i__law_take .nil pass0 (yl (yo (pv 0) (yo yq yu rfl) rfl))))))) xE) (xK (xJ (xI xV yq (yx G__law_take (hr.mono (by decide)) rfl T.m__law_take T.k__law_take T.i__law_take .nil pass0 (yl (yo (pv 0) (yo (xI op_mul yq (xI op_pow yq yq)) yu rfl) rfl)))))))))), ?_⟩
  have s3 : 3 <= sizeLine := by rw [sizeLine_eq]; decide
  refine ⟨_, rfl, p, _, rfl, by decide, by decide, hp, fun d H1 d0 d1 g1 => ⟨_, rfl, _, _, rfl, rfl, _, rfl, iteD (fun h1 => ?_) fun h1 => ?_⟩⟩
  ·obtain ⟨v, hv, v0, v1⟩ : ∃ v : Int, atI [V.int 0, V.int 1, V.int 1] d = some (V.int v) /\ 0 <= v /\ v <= 1 := by
    obtain rfl | rfl | rfl : d = 0 \/ d = 1 \/ d = 2 := by omega
    ·exact ⟨0, rfl, by decide, by decide⟩
    ·exact ⟨1, rfl, by decide, by decide⟩
    ·exact ⟨1, rfl, by decide, by decide⟩
   exact ⟨s3, fun l hl => ⟨_, rfl, l, _, _, _, rfl, rfl, SqL.of yn, hv, q _ _ v0 (by omega) (g1.new hl)⟩⟩
  ·refine ⟨_, rfl, rfl, _, rfl, iteD (fun h2 => ?_) fun h2 => ?_⟩
   ·exact ⟨_, rfl, p, _, rfl, by decide, by decide, g1.2, fun e H2 e0 e1 g2 => ⟨_, _, rfl, rfl, q _ _ (by omega) (by omega) (g1.trans g2)⟩⟩
   ·have e16 : (16 : Int) * 10 ^ Int.toNat 6 = 16000000 := by decide
    refine ⟨_, rfl, _, _, rfl, rfl, ⟨by decide, by decide, by decide⟩, _, _, rfl, rfl, .inl ⟨by decide, by decide⟩, p, _, rfl, by decide, by decide, g1.2, fun e H2 e0 e1 g2 => ⟨_, _, rfl, rfl, q _ _ (by omega) (by rw [e16] at e1; omega) (g1.trans g2)⟩⟩
theorem sc__law_meetings : FnScope ["_law_purse_here", "_law_walkers", "_law_most", "_law_found", "_law_when", "_law_busy", "_law_k", "_law_one", "_law_other", "_law_gap", "_law_passed", "_law_late"] ["_law_purse_here", "_law_walkers", "_law_most"] (defScope xy) := ⟨rfl, rfl, rfl, by decide +kernel, rfl, by decide +kernel, by decide +kernel⟩
theorem ok__law_meetings (T : Tx K mg a) : FnOk P w K mg base CX0 3 a.a__law_meetings a.d__law_meetings ["_law_purse_here", "_law_walkers", "_law_most"] (spMeetings) := by
 have G__law_take := @xN P w _ _ base _ T
 have G__law_step := @ok__law_step P w _ _ base _ T
 refine T.F__law_meetings.ok sc__law_meetings (fun vs H Q E h => ?_) (fun cdv A outer s H vs Q E hr h => ?_)
 ·obtain ⟨p, w, n, rfl, _⟩ := h; rfl
 ·have nd := sc__law_meetings.nd
  have hu := hr.units
  obtain ⟨p, w, n, rfl, hn, w9, hw, hp, q⟩ := h
  refine ⟨_, (yw (xC (xB (i := 3) nd rfl (by first | exact Or.inl rfl | exact Or.inr rfl) (xS wB)) (xC (xB (i := 4) nd rfl (by first | exact Or.inl rfl | exact Or.inr rfl) (xI xV yq (xI op_mul (xI op_fdivB (yx G__law_take (hr.mono (by decide)) rfl T.m__law_take T.k__law_take T.i__law_take .nil pass0 (yl (yo (pv 0) (yo yq yu rfl) rfl))) yq) (yx G__law_take (hr.mono (by decide)) rfl T.m__law_take T.k__law_take T.i__law_take .nil pass0 (yl (yo (pv 0) (yo (xI op_pow yq yq) yu rfl) rfl)))))) (xC (xB (i := 5) nd rfl (by first | exact Or.inl rfl | exact Or.inr rfl) (xS wB)) (xC (ps_for PassesOwn.never rfl (xl rfl T.b_range (yl (yo (pv 2) yu rfl))) (y8 (i := 6) nd rfl (by first | exact Or.inl rfl | exact Or.inr rfl)) (yw (xC (xB (i := 7) nd rfl (by first | exact Or.inl rfl | exact Or.inr rfl) (yx G__law_take (hr.mono (by decide)) rfl T.m__law_take T.k__law_take T.i__law_take .nil pass0 (yl (yo (pv 0) (yo (pv 1) yu rfl) rfl)))) (xC (xB (i := 8) nd rfl (by first | exact Or.inl rfl | exact Or.inr rfl) (xI op_mod (xI xV (xI xV (pv 7) yq) (yx G__law_take (hr.mono (by decide)) rfl T.m__law_take T.k__law_take T.i__law_take .nil pass0 (yl (yo (pv 0) (yo (xI op_sub (pv 1) yq) yu rfl) rfl)))) (pv 1))) (xC (xB (i := 9) nd rfl (by first | exact Or.inl rfl | exact Or.inr rfl) (yx G__law_step (hr.mono (by decide)) rfl T.m__law_step T.k__law_step T.i__law_step .nil pass0 (yl (yo (pv 0) yu rfl)))) (xC (xL (PW.pt (pw_or (xA (op_in_seq' rfl) (pv 7) (pv 5) rfl) (pw_or1 (xA (op_in_seq' rfl) (pv 8) (pv 5) rfl)))) (yw (xK (xB (i := 9) nd rfl (by first | exact Or.inl rfl | exact Or.inr rfl) (yz (call_max2 rfl) (by rfl) T.b_max PyProof.Rows.boot_max (yl (yo yq (yo (pv 9) yu rfl) rfl)))))) xE) (xC (xL (xA op_gt (pv 9) yq (nomark _)) (yw (xK (xB (i := 5) nd rfl (by first | exact Or.inl rfl | exact Or.inr rfl) (xS wB)))) xE) (xC (xB (i := 4) nd rfl (by first | exact Or.inl rfl | exact Or.inr rfl) (xI xV (pv 4) (pv 9))) (xC (xB (i := 5) nd rfl (by first | exact Or.inl rfl | exact Or.inr rfl) (xI op_cat (pv 5) (xS (yl (yo (pv 7) (yo (pv 8) yu rfl) rfl))))) (xC (xB (i := 10) nd rfl (by first | exact Or.inl rfl | exact Or.inr rfl) (xI xV yq (xI op_fdivB (yx G__law_take (hr.mono (by decide)) rfl T.m__law_take T.k__law_take T.i__law_take .nil pass0 (yl (yo (pv 0) (yo yq yu rfl) rfl))) yq))) (xC (xL (xA xg (yx G__law_take (hr.mono (by decide)) rfl T.m__law_take T.k__law_take T.i__law_take .nil pass0 (yl (yo (pv 0) (yo yq yu rfl) rfl))) yq (nomark _)) (yw (xK (xB (i := 10) nd rfl (by first | exact Or.inl rfl | exact Or.inr rfl) (xI xV yq (yx G__law_take (hr.mono (by decide)) rfl T.m__law_take T.k__law_take T.i__law_take .nil pass0 (yl (yo (pv 0) (yo yq yu rfl) rfl))))))) xE) (xK (xX (pe_bm zX zl zm mt_append (pv 3) (yl (yo (xq (yl (yo (pv 4) (yo (yz (call_min2 rfl) (by rfl) T.b_min PyProof.Rows.boot_min (yl (yo (pv 7) (yo (pv 8) yu rfl) rfl))) (yo (yz (call_max2 rfl) (by rfl) T.b_max PyProof.Rows.boot_max (yl (yo (pv 7) (yo (pv 8) yu rfl) rfl))) (yo (pv 10) yu rfl) rfl) rfl) rfl))) yu rfl)))))))))))))))) (xC (xB (i := 11) nd rfl (by first | exact Or.inl rfl | exact Or.inr rfl) yq) (xC (xL (PW.pt (pw_and (xA xg (yx G__law_take (hr.mono (by decide)) rfl T.m__law_take T.k__law_take T.i__law_take .nil pass0 (yl (yo (pv 0) (yo yq yu rfl) rfl))) yq (nomark _)) (pw_and1 (xA (op_neNil hu) (pv 3) (xS wB) (nomark _))))) (yw (xK (xB (i := 11) nd rfl (by first | exact Or.inl rfl | exact Or.inr rfl) (xI op_sub (xI op_pow yq yq) (pv 4))))) xE) (xK (xJ (pe_callTy (call_tuple_of) (by rfl) T.b_tuple PyProof.Rows.boot_tuple (yl (yo (wD (own := ["_law_then", "_law_low", "_law_high", "_law_room"]) (caps := [11]) rfl (show CompScope ["_law_then", "_law_low", "_law_high", "_law_room"] [11] ["_law_purse_here", "_law_walkers", "_law_most", "_law_found", "_law_when", "_law_busy", "_law_k", "_law_one", "_law_other", "_law_gap", "_law_passed", "_law_late"] (defScope xy) _ from ⟨rfl, by decide +kernel, by decide +kernel, by decide +kernel, by decide +kernel⟩) (pi_list' rfl (yz (call_sortT) (by rfl) T.b_sorted PyProof.Rows.boot_sorted (yl (yo (pv 3) yu rfl)))) (fun _ _ _ _ => (xw (n := 4) rfl rfl (xF (y8 (i := 0) (show List.Nodup (["_law_then", "_law_low", "_law_high", "_law_room", "_law_late"] : List Str) from by decide +kernel) rfl (by first | exact Or.inl rfl | exact Or.inr rfl)) (xF (y8 (i := 1) (show List.Nodup (["_law_then", "_law_low", "_law_high", "_law_room", "_law_late"] : List Str) from by decide +kernel) rfl (by first | exact Or.inl rfl | exact Or.inr rfl)) (xF (y8 (i := 2) (show List.Nodup (["_law_then", "_law_low", "_law_high", "_law_room", "_law_late"] : List Str) from by decide +kernel) rfl (by first | exact Or.inl rfl | exact Or.inr rfl)) (xF (y8 (i := 3) (show List.Nodup (["_law_then", "_law_low", "_law_high", "_law_room", "_law_late"] : List Str) from by decide +kernel) rfl (by first | exact Or.inl rfl | exact Or.inr rfl)) xm)))))) (fun _ _ _ _ => wC) (fun _ _ _ _ => (xq (yl (yo (pv 1) (yo (pv 2) (yo (xI xV (pv 0) (pv 4)) (yo (pv 3) yu rfl) rfl) rfl) rfl))))) yu rfl)))))))))))), ?_⟩
  have line : 1001 <= sizeLine := by rw [sizeLine_eq]; decide
  have c7 : CPow 10 7 := ⟨by decide, by decide, by decide⟩
  have e7 : (10 : Int) ^ Int.toNat 7 = 10000000 := by decide
  have e64 : (2 : Int) ^ 64 > 1000 := by decide
  have e200 : (2 : Int) ^ 200 > 1000 := by decide
  refine ⟨zb _, fun lf hlf => ?_⟩
  have npf := hp.ne hlf
  have hp1 : Purse (upd H lf (.lst [])) p := hp.new hlf
  refine ⟨_, rfl, p, _, rfl, by decide, by decide, hp1, fun d H1 d0 d1 g1 => ⟨_, _, rfl, rfl, ⟨by decide, by decide⟩, _, rfl, _, _, rfl, rfl, c7, ?_⟩⟩
  refine ⟨p, _, rfl, by decide, by decide, g1.2, fun d2 H2 d20 d21 g2 => ⟨_, _, rfl, rfl, .inl ⟨by omega, by omega⟩, _, _, rfl, rfl, ?_⟩⟩
  rw [e7] at d21
  refine ⟨zb _, fun lb hlb => ?_⟩
  have fr2 := g1.trans g2
  have hlf2 : H2 lf = some (.lst []) := fr2.1 lf _ npf yn
  have go0 : Go p H H2 := ((Go.refl hp).new hlf).trans fr2
  refine ⟨_, rfl, _, rfl, by omega, by omega, ?_⟩
  have wh0 : 1 <= 1 + d / 2 * d2 /\ 1 + d / 2 * d2 <= 10000000 := by
   obtain h | h : d / 2 = 0 \/ d / 2 = 1 := by omega
   ·rw [h]; omega
   ·rw [h]; omega
  refine for_range (lo := 0) (n := n) (PvM p lf w n H)
   ⟨_, _, _, _, _, _, lb, [], [], rfl, by rw [yy (yr hlf2 hlb)]; exact hlf2, yn, (yr hlf2 hlb).symm, go0.2.ne hlb, (fun _ z => nomatch z), ⟨(fun _ z => nomatch z), .nil, (fun _ z => nomatch z)⟩, rfl, by simp, wh0.1, (by have := wh0.2; simpa using this), go0.new hlb⟩ ?_ ?_
  ·rintro i σ H3 hi ⟨v6, v7, v8, v9, v10, wh, lb, bs, fs, rfl, h3f, h3b, nbf, nbp, h3r, F, lenf, lenb, wh1, wh2, go⟩
   have w2 : 2 <= w := by omega
   refine ⟨_, rfl, _, rfl, p, w, rfl, by omega, by omega, go.2, fun one H4 o0 o1 g4 => ?_⟩
   refine ⟨_, rfl, _, _, rfl, rfl, _, rfl, _, rfl, _, _, rfl, rfl, p, _, rfl, by omega, by omega, g4.2, fun x H5 x0 x1 g5 => ⟨_, _, rfl, rfl, _, rfl, _, _, rfl, rfl, by omega, ?_⟩⟩
   have ot := oth_ok o0 o1 x0 x1
   refine ⟨_, rfl, p, rfl, g5.2, fun gap H6 gap0 gap1 g6 => ?_⟩
   have g46 := g4.trans (g5.trans g6)
   have hb6 := g46.1 lb _ nbp h3b
   have hf6 := g46.1 lf _ npf h3f
   refine ⟨_, rfl, _, rfl, lb, _, rfl, .inl (SqL.of hb6), rfl, flat_ints bs, _, rfl, iteO (fun σ H7 => ∃ gp : Int, σ = [some (.ref p), some (.int w), some (.int n), some (.ref lf), some (.int wh), some (.ref lb), some (.int (0 + (i : Int))), some (.int one), some (.int ((one + 1 + x) % w)), some (.int gp), v10, none] /\ H6 = H7 /\ 0 <= gp /\ gp <= 16000000 /\ (gp = 0 -> one ∉ bs /\ (one + 1 + x) % w ∉ bs)) ?_ (fun c1 k0 => ?_) (fun c1 k0 => ⟨_, rfl, _, rfl, lb, _, rfl, .inl (SqL.of hb6), rfl, flat_ints bs, _, rfl, iteB (fun c2 => ?_) (fun c2 => ?_)⟩)⟩
   rotate_left
   ·exact ⟨_, rfl, _, _, rfl, k0 _ _ ⟨_, rfl, rfl, by split <;> omega, by split <;> omega, fun z => by split at z <;> omega⟩⟩
   ·exact ⟨_, rfl, _, _, rfl, k0 _ _ ⟨_, rfl, rfl, by split <;> omega, by split <;> omega, fun z => by split at z <;> omega⟩⟩
   ·have c1' : one ∉ bs := of_decide_eq_false (inV_ints.symm.trans c1)
    have c2' : (one + 1 + x) % w ∉ bs := of_decide_eq_false (inV_ints.symm.trans c2)
    exact k0 _ _ ⟨gap, rfl, rfl, by omega, by omega, fun _ => ⟨c1', c2'⟩⟩
   rintro σ H7 ⟨gp, rfl, rfl, gp0, gp1, hg⟩
   refine ⟨_, rfl, _, _, rfl, rfl, _, rfl, iteN (fun σ H7 => ∃ ly bz, σ = [some (.ref p), some (.int w), some (.int n), some (.ref lf), some (.int wh), some (.ref ly), some (.int (0 + (i : Int))), some (.int one), some (.int ((one + 1 + x) % w)), some (.int gp), v10, none] /\ Go p H3 H7 /\ H7 ly = some (.lst (List.map V.int bz)) /\ ly ≠ p /\ bz.length <= 2 * i /\ ∀ z ∈ bs, gp = 0 -> z ∈ bz) ?_ (fun c3 k0 => ⟨zb _, fun ln hln => k0 _ _ ⟨ln, [], rfl, g46.new hln, yn, g46.2.ne hln, zb _, fun _ _ z => by have := of_decide_eq_true c3; omega⟩⟩) (fun c3 => ⟨lb, bs, rfl, g46, hb6, nbp, lenb, fun _ z _ => z⟩)⟩
   rintro σ H7 ⟨ly, bz, rfl, gy, hyb, nyp, leny, hb0⟩
   have h3f' := gy.1 lf _ npf h3f
   refine ⟨_, rfl, _, rfl, _, _, rfl, rfl, ?_⟩
   refine ⟨_, rfl, _, rfl, _, rfl, by show 2 <= sizeLine; omega, fun l2 hl2 => ?_⟩
   have g2' := gy.new (o := HO.lst [V.int one, V.int ((one + 1 + x) % w)]) hl2
   have hyb2 := yt (o := HO.lst [V.int one, V.int ((one + 1 + x) % w)]) hl2 _ _ hyb
   have h22 : (upd H7 l2 (HO.lst [V.int one, V.int ((one + 1 + x) % w)])) l2 = some (.lst [V.int one, V.int ((one + 1 + x) % w)]) := yn
   generalize upd H7 l2 (HO.lst [V.int one, V.int ((one + 1 + x) % w)]) = H8 at g2' hyb2 h22 ⊢
   refine ⟨ly, l2, _, _, rfl, rfl, hyb2, h22, (by simp only [zA, zf, yK]; omega), fun l3 hl3 => ?_⟩
   have n3p : l3 ≠ p := g2'.2.ne hl3
   have n3f : l3 ≠ lf := (yr (g2'.1 lf _ npf h3f) hl3).symm
   have g3' := g2'.new (o := HO.lst (List.map V.int bz ++ [V.int one, V.int ((one + 1 + x) % w)])) hl3
   have h3b' : (upd H8 l3 (HO.lst (List.map V.int bz ++ [V.int one, V.int ((one + 1 + x) % w)]))) l3 = some (.lst (List.map V.int (bz ++ [one, (one + 1 + x) % w]))) := by rw [yn, zL]; rfl
   generalize upd H8 l3 (HO.lst (List.map V.int bz ++ [V.int one, V.int ((one + 1 + x) % w)])) = H9 at g3' h3b' ⊢
   refine ⟨_, rfl, p, _, rfl, by decide, by decide, g3'.2, fun d4 H10 d40 d41 g10 => ⟨_, _, rfl, rfl, ⟨by decide, by decide⟩, _, _, rfl, rfl, ?_⟩⟩
   refine ⟨_, rfl, p, _, rfl, by decide, by decide, g10.2, fun d5 H11 d50 d51 g11 => ⟨rfl, _, rfl, iteN (fun σ H12 => ∃ mm : Int, σ = [some (.ref p), some (.int w), some (.int n), some (.ref lf), some (.int (wh + gp)), some (.ref l3), some (.int (0 + (i : Int))), some (.int one), some (.int ((one + 1 + x) % w)), some (.int gp), some (.int mm), none] /\ 1 <= mm /\ mm <= 99 /\ Go p H9 H12) ?_ (fun c5 k0 => ⟨_, rfl, p, _, rfl, by decide, by decide, g11.2, fun d6 H12 d60 d61 g12 => ⟨_, _, rfl, rfl, k0 _ _ ⟨_, rfl, by omega, by omega, (g10.trans g11).trans g12⟩⟩⟩) (fun c5 => ⟨_, rfl, by omega, by omega, g10.trans g11⟩)⟩⟩
   rintro σ H12 ⟨mm, rfl, mm0, mm1, g12⟩
   have gall := g3'.trans g12
   have hz := gall.1 lf _ npf h3f
   refine ⟨_, rfl, .inl ⟨rfl, _, SqL.of hz⟩, _, rfl, _, rfl, _, rfl, _, _, rfl, _, rfl, _, rfl, _, _, rfl, _, rfl, by show 4 <= sizeLine; omega, fun t ht => ⟨lf, _, _, rfl, rfl, (by rw [yy (yr hz ht)]; exact hz), (by rw [zA]; omega), ?_⟩⟩
   exact PvM.step npf hlf F lenf (bs' := bz ++ [one, (one + 1 + x) % w]) (by simp only [zT, zf, yK]; omega) wh1 wh2 hz (g12.1 l3 _ n3p h3b') n3f n3p (fun a ha => gall.tups go.2 _ _ (h3r a ha)) (go.trans gall) ht gp0 gp1 o0 o1 ot.1 ot.2.1 ot.2.2 mm0 mm1 hg (fun z hz1 hz2 => yL _ (hb0 z hz1 hz2)) (by simp) (by simp)
  ·rintro σ H3 ⟨v6, v7, v8, v9, v10, wh, lb, bs, fs, rfl, h3f, h3b, nbf, nbp, h3r, F, lenf, lenb, wh1, wh2, go⟩
   have c9 : CPow 10 9 := ⟨by decide, by decide, by decide⟩
   have e9 : (10 : Int) ^ Int.toNat 9 = 1000000000 := by decide
   refine ⟨_, rfl, p, _, rfl, by decide, by decide, go.2, fun d8 H4 _ _ g4 => ⟨rfl, _, rfl, iteA (fun σ H5 => ∃ late : Int, (∃ v6 v7 v8 v9 v10, σ = [some (.ref p), some (.int w), some (.int n), some (.ref lf), some (.int wh), some (.ref lb), v6, v7, v8, v9, v10, some (.int late)]) /\ Go p H3 H5 /\ 0 <= late /\ (fs ≠ [] -> wh + late <= 1000000000)) ?_ (fun c k0 => ?_) (fun c => ⟨0, ⟨_, _, _, _, _, rfl⟩, g4, yY _, fun _ => by omega⟩)⟩⟩
   rotate_left
   ·have h4f := g4.1 lf _ npf h3f
    refine ⟨_, rfl, zb _, fun l4 hl4 => ⟨lf, l4, _, rfl, rfl, SqL.of (by rw [yy (yr h4f hl4)]; exact h4f), SqL.of yn, _, rfl, iteB (fun c2 => ?_) (fun c2 => ?_)⟩⟩
    ·exact ⟨_, _, rfl, rfl, c9, _, rfl, _, _, rfl, rfl, k0 _ _ ⟨_, ⟨_, _, _, _, _, rfl⟩, g4.new hl4, by rw [e9]; omega, fun _ => by rw [e9]; omega⟩⟩
    ·exact k0 _ _ ⟨0, ⟨_, _, _, _, _, rfl⟩, g4.new hl4, yY _, fun _ => by omega⟩
   rintro σ Hz ⟨late, ⟨v6', v7', v8', v9', v10', rfl⟩, gz, L0, L1⟩
   have hz := gz.1 lf _ npf h3f
   refine ⟨_, rfl, lf, fs.map (fun a => (a.1, a.2.row)), rfl, ?_, (by rw [zA]; omega), (fun a ha => ?_), fun D qs hD pq sq => ?_⟩
   ·rw [zo]; exact SqL.of hz
   ·obtain ⟨b, hb, rfl⟩ := zQ.mp ha
    exact ⟨gz.tups go.2 _ _ (h3r b hb), by intro z; cases z⟩
   obtain ⟨rs, prs, srs, rfl⟩ := rows_back pq sq
   refine ⟨D, rfl, ⟨_, SqL.of yn⟩, ?_⟩
   have lrs : rs.length = n := by rw [prs.length_eq, lenf]
   have hDl : (upd Hz D (HO.lst (List.map (fun a => V.ref a.1) (List.map (fun a : Addr × M4 => (a.1, a.2.row)) rs)))) D = some (.lst (rs.map fun a => V.ref a.1)) := by rw [yn, zo]; rfl
   have rD := fun a (ha : a ∈ rs) => (Tups.new (o := HO.lst (List.map (fun a => V.ref a.1) (List.map (fun a : Addr × M4 => (a.1, a.2.row)) rs))) hD) _ _ (gz.tups go.2 _ _ (h3r a (prs.mem_iff.mp ha)))
   have gD := (go.trans gz).new (o := HO.lst (List.map (fun a => V.ref a.1) (List.map (fun a : Addr × M4 => (a.1, a.2.row)) rs))) hD
   refine comp_list (K := K) (a := D) (xs := rs.map fun a => V.ref a.1) (fun i τ acc H5 => ∃ ps : List (Addr × M4), (∃ t0 t1 t2 t3, τ = [t0, t1, t2, t3, some (.int late)]) /\ acc = (ps.map fun a => V.ref a.1) /\ (ps.map (·.2)) = ((rs.take i).map fun a => a.2.late late) /\ RowsAt H5 ps /\ Same (upd Hz D (HO.lst (List.map (fun a => V.ref a.1) (List.map (fun a : Addr × M4 => (a.1, a.2.row)) rs)))) H5)
    ?_ (by rw [zA]; omega) ?_ ?_ ?_
   ·exact ⟨[], ⟨_, _, _, _, rfl⟩, rfl, rfl, (fun _ z => nomatch z), Same.refl _⟩
   ·rintro i τ acc H6 ⟨ps, ⟨t0, t1, t2, t3, rfl⟩, rfl, eps, rws, sm⟩
    have := congrArg List.length eps
    rw [zA, zA, zq] at this
    exact ⟨by rw [zA]; omega, sm.seq (SqL.of hDl)⟩
   ·rintro i x τ acc H5 C hx ⟨ps, ⟨t0, t1, t2, t3, rfl⟩, rfl, eps, rws, sm⟩ hC
    obtain ⟨r, hr, rfl⟩ := xO hx
    have hrow := sm _ _ (rD r (zD hr))
    refine ⟨r.1, _, rfl, SqT.of hrow, rfl, _, _, rfl, _, _, rfl, _, _, rfl, _, _, rfl, rfl, _, rfl, _, rfl, _, rfl, _, rfl, _, _, rfl, rfl, _, rfl, by show 4 <= sizeLine; omega, fun t ht => hC _ _ _ ?_⟩
    refine ⟨ps ++ [(t, r.2.late late)], ⟨_, _, _, _, rfl⟩, by rw [zL]; rfl, by rw [zL, xR hr, zL, eps]; rfl, fun a ha => ?_, sm.trans (yt ht)⟩
    rcases zZ.mp ha with h | h
    ·exact yt ht _ _ (rws a h)
    ·cases zM.mp h
     exact yn
   ·rintro τ acc H6 ⟨ps, ⟨t0, t1, t2, t3, rfl⟩, rfl, eps, rws, sm⟩ lt hlt
    refine ⟨lt, _, rfl, .inl ⟨SqL.of yn, fun t ht => q t ps _ (((gD.same sm).new hlt).new ht) yn ((rws.tups (Tups.new hlt)).tups (Tups.new ht)) ?_ ?_⟩⟩
    ·rw [eps, zA, z4]
     exact F.good (by omega) L0 L1 prs srs
    ·have := congrArg List.length eps
     rw [zA, zA, zA, z4] at this
     omega
theorem sc__law_book : FnScope ["_law_purse_here", "_law_most_walkers", "_law_most_meetings", "_law_walkers", "_law_most"] ["_law_purse_here", "_law_most_walkers", "_law_most_meetings"] (defScope s__law_book) := ⟨rfl, rfl, rfl, by decide +kernel, rfl, by decide +kernel, by decide +kernel⟩
theorem ok__law_book (T : Tx K mg a) : FnOk P w K mg base CX0 4 a.a__law_book a.d__law_book ["_law_purse_here", "_law_most_walkers", "_law_most_meetings"] (spBook) := by
 have G__law_take := @xN P w _ _ base _ T
 have G__law_rooms := @ok__law_rooms P w _ _ base _ T
 have G__law_meetings := @ok__law_meetings P w _ _ base _ T
 refine T.F__law_book.ok sc__law_book (fun vs H Q E h => ?_) (fun cdv A outer s H vs Q E hr h => ?_)
 ·obtain ⟨p, a, n, rfl, _⟩ := h; rfl
 ·have nd := sc__law_book.nd
  have hu := hr.units
  obtain ⟨p, aw, n, rfl, a1, a2, hn, hp, q⟩ := h
  refine ⟨_, (yw (xC (xB (i := 3) nd rfl (by first | exact Or.inl rfl | exact Or.inr rfl) (xI xV yq (yx G__law_take (hr.mono (by decide)) rfl T.m__law_take T.k__law_take T.i__law_take .nil pass0 (yl (yo (pv 0) (yo (pv 1) yu rfl) rfl))))) (xC (xB (i := 4) nd rfl (by first | exact Or.inl rfl | exact Or.inr rfl) (yz (call_min2 rfl) (by rfl) T.b_min PyProof.Rows.boot_min (yl (yo (pv 2) (yo (yx G__law_take (hr.mono (by decide)) rfl T.m__law_take T.k__law_take T.i__law_take .nil pass0 (yl (yo (pv 0) (yo (xI xV (pv 2) yq) yu rfl) rfl))) yu rfl) rfl)))) (xC (xL (xA xg (pv 3) yq (nomark _)) (yw (xK (xB (i := 4) nd rfl (by first | exact Or.inl rfl | exact Or.inr rfl) yq))) xE) (xK (xJ (xq (yl (yo (yx G__law_rooms (hr.mono (by decide)) rfl T.m__law_rooms T.k__law_rooms T.i__law_rooms .nil pass0 (yl (yo (pv 0) (yo (pv 3) yu rfl) rfl))) (yo (yx G__law_meetings (hr.mono (by decide)) rfl T.m__law_meetings T.k__law_meetings T.i__law_meetings .nil pass0 (yl (yo (pv 0) (yo (pv 3) (yo (pv 4) yu rfl) rfl) rfl))) yu rfl) rfl))))))))), ?_⟩
  have line : 1001 <= sizeLine := by rw [sizeLine_eq]; decide
  have e200 : (2 : Int) ^ 200 > 1000 := by decide
  refine ⟨_, rfl, _, rfl, p, aw, rfl, by omega, by omega, hp, fun d H1 d0 d1 g1 => ⟨_, _, rfl, rfl, ?_⟩⟩
  obtain ⟨k, rfl⟩ := zO d0
  refine ⟨_, rfl, _, rfl, _, rfl, _, _, rfl, rfl, p, _, rfl, by omega, by omega, g1.2, fun e H2 e0 e1 g2 => ⟨_, _, rfl, ?_⟩⟩
  obtain ⟨m, em, hm⟩ : ∃ m : Nat, (if e < (n : Int) then e else (n : Int)) = m /\ m <= n := by
   refine ⟨(if e < (n : Int) then e else (n : Int)).toNat, ?_, ?_⟩ <;> split <;> omega
  refine ⟨_, rfl, rfl, _, rfl, iteN (fun σ H3 => ∃ m : Nat, σ = [some (.ref p), some (.int aw), some (.int n), some (.int (1 + (k : Int))), some (.int m)] /\ m <= n /\ (m = 0 \/ 1 <= k) /\ Go p H H3) ?_ (fun c k0 => k0 _ _ ⟨0, rfl, zb _, .inl rfl, g1.trans g2⟩) (fun c => ⟨m, by rw [<- em]; rfl, hm, .inr (by
    by_cases hk : k = 0
    ·subst hk; exact absurd c (by simp)
    ·omega), g1.trans g2⟩)⟩
  rintro σ H2 ⟨m, rfl, hm, hk, g2⟩
  refine ⟨_, rfl, _, rfl, p, 1 + k, by simp, by omega, g2.2, fun tr rooms H3 g3 h3 l3 r3 => ⟨_, rfl, _, rfl, _, rfl, p, _, m, rfl, by omega, by omega, by omega, g3.2, fun tm ps H4 g4 h4 r4 gd l4 => ⟨by show 2 <= sizeLine; omega, fun b hb => ?_⟩⟩⟩
  have h3' := g4.tups g3.2 _ _ h3
  have tn := Tups.new (o := HO.tup [V.ref tr, V.ref tm]) hb
  refine q b rooms tr tm ps _ ((g2.trans (g3.trans g4)).new hb) ⟨yn, tn _ _ h3', tn _ _ h4, r4.tups tn⟩ (by omega) (by omega) r3 ?_ (by omega)
  rw [l3]
  simpa using gd
theorem sc__law_time : FnScope ["_law_purse_here", "_law_book_here", "_law_later", "_law_way", "_law_at"] ["_law_purse_here", "_law_book_here", "_law_later"] (defScope s__law_time) := ⟨rfl, rfl, rfl, by decide +kernel, rfl, by decide +kernel, by decide +kernel⟩
theorem ok__law_time (T : Tx K mg a) : FnOk P w K mg base CX0 3 a.a__law_time a.d__law_time ["_law_purse_here", "_law_book_here", "_law_later"] (spTimeOf) := by
 have G__law_take := @xN P w _ _ base _ T
 have G__law_far := @ok__law_far P w _ _ base _ T
 refine T.F__law_time.ok sc__law_time (fun vs H Q E h => ?_) (fun cdv A outer s H vs Q E hr h => ?_)
 ·obtain ⟨p, b, j, _, _, _, _, rfl, _⟩ := h; rfl
 ·have nd := sc__law_time.nd
  have hu := hr.units
  obtain ⟨p, b, j, rooms, tr, tm, ps, rfl, hj, hb, gd, hp, q⟩ := h
  refine ⟨_, (yw (xC (xB (i := 3) nd rfl (by first | exact Or.inl rfl | exact Or.inr rfl) (yx G__law_take (hr.mono (by decide)) rfl T.m__law_take T.k__law_take T.i__law_take .nil pass0 (yl (yo (pv 0) (yo yq yu rfl) rfl)))) (xC (xL (xA xg (pv 3) yq (nomark _)) (yw (xK (xJ (xD (xG rfl) (xS (yl (yo yq (yo (xI op_pow yq yq) yu rfl) rfl))) (pv 2) (fun _ _ => rfl))))) xE) (xC (xL (xA xg (pv 3) yq (nomark _)) (yw (xK (xJ (yx G__law_far (hr.mono (by decide)) rfl T.m__law_far T.k__law_far T.i__law_far .nil pass0 (yl (yo (pv 0) yu rfl)))))) xE) (xC (xL (xA (op_eqUnit hu) (xD (xH rfl) (pv 1) yq (fun _ _ => rfl)) (xq wB) (nomark _)) (yw (xK (xJ (yx G__law_take (hr.mono (by decide)) rfl T.m__law_take T.k__law_take T.i__law_take .nil pass0 (yl (yo (pv 0) (yo yq yu rfl) rfl)))))) xE) (xC (xB (i := 4) nd rfl (by first | exact Or.inl rfl | exact Or.inr rfl) (yx G__law_take (hr.mono (by decide)) rfl T.m__law_take T.k__law_take T.i__law_take .nil pass0 (yl (yo (pv 0) (yo (yz (y6 rfl) (by rfl) T.b_len PySem.boot_len (yl (yo (xD (xH rfl) (pv 1) yq (fun _ _ => rfl)) yu rfl))) yu rfl) rfl)))) (xC (xL (xA op_gt (pv 3) yq (nomark _)) (yw (xK (xB (i := 4) nd rfl (by first | exact Or.inl rfl | exact Or.inr rfl) (xD (xG rfl) (xS (yl (yo (xI op_fdivB (pv 4) yq) (yo (xI op_fdivB (xI xV (pv 4) (yz (y6 rfl) (by rfl) T.b_len PySem.boot_len (yl (yo (xD (xH rfl) (pv 1) yq (fun _ _ => rfl)) yu rfl)))) yq) yu rfl) rfl))) (pv 2) (fun _ _ => rfl))))) xE) (xK (xJ (xI op_sub (xD (xH rfl) (xD (xH rfl) (xD (xH rfl) (pv 1) yq (fun _ _ => rfl)) (pv 4) (fun _ _ => rfl)) yq (fun _ _ => rfl)) (xD (xG rfl) (xS (yl (yo yq (yo yq yu rfl) rfl))) (xI op_xor (xI op_fdivB (yx G__law_take (hr.mono (by decide)) rfl T.m__law_take T.k__law_take T.i__law_take .nil pass0 (yl (yo (pv 0) (yo yq yu rfl) rfl))) yq) (pv 2)) (fun _ _ => rfl)))))))))))), ?_⟩
  have line := line9
  have e200 : (2 : Int) ^ 200 > 10000 := by decide
  have c9 : CPow 10 9 := ⟨by decide, by decide, by decide⟩
  have e9 : (10 : Int) ^ Int.toNat 9 = 1000000000 := by decide
  have l60 := gd.len
  refine ⟨_, rfl, p, _, rfl, by decide, by decide, hp, fun way H1 w0 w1 g1 => ?_⟩
  refine ⟨_, rfl, rfl, _, rfl, iteD (fun c => ?_) (fun c => ⟨_, rfl, rfl, _, rfl, iteD (fun c => ?_) (fun c => ?_)⟩)⟩
  ·refine ⟨_, _, rfl, rfl, c9, by show 2 <= sizeLine; omega, fun l hl => ⟨_, rfl, ?_⟩⟩
   rcases hj with rfl | rfl
   ·exact ⟨l, _, _, _, rfl, rfl, SqL.of yn, rfl, q _ _ (by omega) (by omega) (g1.new hl)⟩
   ·exact ⟨l, _, _, _, rfl, rfl, SqL.of yn, rfl, q _ _ (by rw [e9]; decide) (by rw [e9]; decide) (g1.new hl)⟩
  ·exact ⟨_, rfl, p, rfl, g1.2, fun d H2 d0 d1 g2 => q _ _ d0 d1 (g1.trans g2)⟩
  have hb1 := hb.tups (g1.tups hp)
  refine ⟨_, rfl, b, _, _, _, rfl, rfl, SqT.of hb1.book, rfl, zb _, fun u hu2 => ?_⟩
  have hb2 := hb1.tups (Tups.new (o := HO.tup []) hu2)
  have g2 := g1.new (o := HO.tup []) hu2
  refine ⟨tm, u, _, rfl, rfl, SqT.of hb2.meets, SqT.of yn, _, rfl, iteB (fun c2 => ?_) (fun c2 => ?_)⟩
  ·exact ⟨_, rfl, p, _, rfl, by decide, by decide, g2.2, fun d H3 d0 d1 g3 => q _ _ d0 (by omega) (g2.trans g3)⟩
  have lps : 1 <= ps.length := by
   cases ps with
   | nil => cases c2
   | cons _ _ => simp
  refine ⟨_, rfl, _, rfl, b, _, _, _, rfl, rfl, SqT.of hb2.book, rfl, tm, _, rfl, .inr (SqT.of hb2.meets), p, _, rfl, by rw [zA]; omega, by rw [zA]; omega, g2.2, fun d H3 d0 d1 g3 => ?_⟩
  rw [zA] at d1
  have hb3 := hb2.tups (g3.tups g2.2)
  have gg3 := g2.trans g3
  refine ⟨_, rfl, _, _, rfl, rfl, _, rfl, iteD (fun c3 => ?_) (fun c3 => ?_)⟩
  ·refine ⟨_, rfl, _, _, rfl, rfl, ⟨by decide, by decide⟩, _, rfl, _, rfl, b, _, _, _, rfl, rfl, SqT.of hb3.book, rfl, tm, _, rfl, .inr (SqT.of hb3.meets), _, _, rfl, rfl, _, _, rfl, rfl, ⟨by decide, by decide⟩, by show 2 <= sizeLine; omega, fun l hl => ⟨_, rfl, ?_⟩⟩
   have gx := gg3.new (o := HO.lst [V.int (d / 2), V.int ((d + ((ps.map fun a => V.ref a.1).length : Int)) / 2)]) hl
   have hx := hb3.tups (Tups.new (o := HO.lst [V.int (d / 2), V.int ((d + ((ps.map fun a => V.ref a.1).length : Int)) / 2)]) hl)
   obtain ⟨k, ek, hk⟩ : ∃ k : Nat, atI [V.int (d / 2), V.int ((d + ((ps.map fun a => V.ref a.1).length : Int)) / 2)] j = some (V.int (k : Int)) /\ k < ps.length := by
    rcases hj with rfl | rfl
    ·obtain ⟨k, hk⟩ := zO (show 0 <= d / 2 by omega)
     exact ⟨k, by rw [<- hk]; rfl, by omega⟩
    ·obtain ⟨k, hk⟩ := zO (show 0 <= (d + ((ps.map fun a => V.ref a.1).length : Int)) / 2 by omega)
     refine ⟨k, by rw [<- hk]; rfl, ?_⟩
     rw [zA] at hk
     omega
   refine ⟨l, _, _, _, rfl, rfl, SqL.of yn, ek, ?_⟩
   refine ⟨_, rfl, b, _, _, _, rfl, rfl, SqT.of hx.book, rfl, _, rfl, tm, _, _, _, rfl, rfl, SqT.of hx.meets, xM (v := V.ref ps[k].1) (by simp [hk]), ps[k].1, _, _, _, rfl, rfl, SqT.of (hx.rows _ (zY hk)), rfl, by show 2 <= sizeLine; omega, fun l9 hl9 => ?_⟩
   have g9 := gx.new (o := HO.lst [V.int 1, V.int 0]) hl9
   refine ⟨_, rfl, p, _, rfl, by decide, by decide, g9.2, fun e H9 e0 e1 g10 => ⟨_, _, rfl, rfl, ⟨by decide, by decide⟩, _, rfl, _, _, rfl, rfl, ?_⟩⟩
   have h9 := g10.1 l9 _ (gx.2.ne hl9) yn
   have tb := gd.at (zY hk)
   have bx : (e / 3 = 0 \/ e / 3 = 1) := by omega
   rcases hj with rfl | rfl <;> rcases bx with bx | bx <;> rw [bx]
   ·exact ⟨l9, _, _, _, rfl, rfl, SqL.of h9, (by decide : atI [V.int 1, V.int 0] (Builtin.bitXor 0 0) = some (V.int 1)), _, _, rfl, rfl, q _ _ (by omega) (by omega) (g9.trans g10)⟩
   ·exact ⟨l9, _, _, _, rfl, rfl, SqL.of h9, (by decide : atI [V.int 1, V.int 0] (Builtin.bitXor 1 0) = some (V.int 0)), _, _, rfl, rfl, q _ _ (by omega) (by omega) (g9.trans g10)⟩
   ·exact ⟨l9, _, _, _, rfl, rfl, SqL.of h9, (by decide : atI [V.int 1, V.int 0] (Builtin.bitXor 0 1) = some (V.int 0)), _, _, rfl, rfl, q _ _ (by omega) (by omega) (g9.trans g10)⟩
   ·exact ⟨l9, _, _, _, rfl, rfl, SqL.of h9, (by decide : atI [V.int 1, V.int 0] (Builtin.bitXor 1 1) = some (V.int 1)), _, _, rfl, rfl, q _ _ (by omega) (by omega) (g9.trans g10)⟩
  ·have gx := gg3
   have hx := hb3
   obtain ⟨k, rfl⟩ := zO d0
   have hk : k < ps.length := by omega
   refine ⟨_, rfl, b, _, _, _, rfl, rfl, SqT.of hx.book, rfl, _, rfl, tm, _, _, _, rfl, rfl, SqT.of hx.meets, xM (v := V.ref ps[k].1) (by simp [hk]), ps[k].1, _, _, _, rfl, rfl, SqT.of (hx.rows _ (zY hk)), rfl, by show 2 <= sizeLine; omega, fun l9 hl9 => ?_⟩
   have g9 := gx.new (o := HO.lst [V.int 1, V.int 0]) hl9
   refine ⟨_, rfl, p, _, rfl, by decide, by decide, g9.2, fun e H9 e0 e1 g10 => ⟨_, _, rfl, rfl, ⟨by decide, by decide⟩, _, rfl, _, _, rfl, rfl, ?_⟩⟩
   have h9 := g10.1 l9 _ (gx.2.ne hl9) yn
   have tb := gd.at (zY hk)
   have bx : (e / 3 = 0 \/ e / 3 = 1) := by omega
   rcases hj with rfl | rfl <;> rcases bx with bx | bx <;> rw [bx]
   ·exact ⟨l9, _, _, _, rfl, rfl, SqL.of h9, (by decide : atI [V.int 1, V.int 0] (Builtin.bitXor 0 0) = some (V.int 1)), _, _, rfl, rfl, q _ _ (by omega) (by omega) (g9.trans g10)⟩
   ·exact ⟨l9, _, _, _, rfl, rfl, SqL.of h9, (by decide : atI [V.int 1, V.int 0] (Builtin.bitXor 1 0) = some (V.int 0)), _, _, rfl, rfl, q _ _ (by omega) (by omega) (g9.trans g10)⟩
   ·exact ⟨l9, _, _, _, rfl, rfl, SqL.of h9, (by decide : atI [V.int 1, V.int 0] (Builtin.bitXor 0 1) = some (V.int 0)), _, _, rfl, rfl, q _ _ (by omega) (by omega) (g9.trans g10)⟩
   ·exact ⟨l9, _, _, _, rfl, rfl, SqL.of h9, (by decide : atI [V.int 1, V.int 0] (Builtin.bitXor 1 1) = some (V.int 1)), _, _, rfl, rfl, q _ _ (by omega) (by omega) (g9.trans g10)⟩
theorem sc__law_letter : FnScope ["_law_purse_here", "_law_book_here", "_law_walkers", "_law_sender", "_law_wish", "_law_since"] ["_law_purse_here", "_law_book_here"] (defScope s__law_letter) := ⟨rfl, rfl, rfl, by decide +kernel, rfl, by decide +kernel, by decide +kernel⟩
theorem ok__law_letter (T : Tx K mg a) : FnOk P w K mg base CX0 4 a.a__law_letter a.d__law_letter ["_law_purse_here", "_law_book_here"] (spLetter) := by
 have G__law_take := @xN P w _ _ base _ T
 have G__law_time := @ok__law_time P w _ _ base _ T
 refine T.F__law_letter.ok sc__law_letter (fun vs H Q E h => ?_) (fun cdv A outer s H vs Q E hr h => ?_)
 ·obtain ⟨p, b, _, _, _, _, rfl, _⟩ := h; rfl
 ·have nd := sc__law_letter.nd
  have hu := hr.units
  obtain ⟨p, b, rooms, tr, tm, ps, rfl, hb, r1, r2, gd, hp, q⟩ := h
  refine ⟨_, (yw (xC (xB (i := 2) nd rfl (by first | exact Or.inl rfl | exact Or.inr rfl) (yz (y6 rfl) (by rfl) T.b_len PySem.boot_len (yl (yo (xD (xH rfl) (pv 1) yq (fun _ _ => rfl)) yu rfl)))) (xC (xB (i := 3) nd rfl (by first | exact Or.inl rfl | exact Or.inr rfl) (yx G__law_take (hr.mono (by decide)) rfl T.m__law_take T.k__law_take T.i__law_take .nil pass0 (yl (yo (pv 0) (yo (pv 2) yu rfl) rfl)))) (xC (xB (i := 4) nd rfl (by first | exact Or.inl rfl | exact Or.inr rfl) (yx G__law_take (hr.mono (by decide)) rfl T.m__law_take T.k__law_take T.i__law_take .nil pass0 (yl (yo (pv 0) (yo (pv 2) yu rfl) rfl)))) (xC (xL (PW.pt (pw_and (xA xg (pv 3) (pv 4) (nomark _)) (pw_and1 (xA op_gt (yx G__law_take (hr.mono (by decide)) rfl T.m__law_take T.k__law_take T.i__law_take .nil pass0 (yl (yo (pv 0) (yo yq yu rfl) rfl))) yq (nomark _))))) (yw (xK (xB (i := 4) nd rfl (by first | exact Or.inl rfl | exact Or.inr rfl) (xI op_mod (xI xV (pv 4) yq) (pv 2))))) xE) (xC (xB (i := 5) nd rfl (by first | exact Or.inl rfl | exact Or.inr rfl) (yx G__law_time (hr.mono (by decide)) rfl T.m__law_time T.k__law_time T.i__law_time .nil pass0 (yl (yo (pv 0) (yo (pv 1) (yo yq yu rfl) rfl) rfl)))) (xK (xJ (xq (yl (yo (pv 3) (yo (pv 5) (yo (pv 4) (yo (yx G__law_time (hr.mono (by decide)) rfl T.m__law_time T.k__law_time T.i__law_time .nil pass0 (yl (yo (pv 0) (yo (pv 1) (yo yq yu rfl) rfl) rfl))) yu rfl) rfl) rfl) rfl))))))))))), ?_⟩
  have line := line9
  have e200 : (2 : Int) ^ 200 > 10000 := by decide
  have rl : (rooms.map V.int).length = rooms.length := zA _
  have fin : ∀ s w : Int, 0 <= s -> s < rooms.length -> 0 <= w -> w < rooms.length -> ∀ H3, Go p H H3 -> spTimeOf [.ref p, .ref b, .int 0] H3 (fun x H4 => spTimeOf [.ref p, .ref b, .int 1] H4 (fun y H5 => 4 <= sizeLine /\ ∀ t, H5 t = none -> Q (.ref t) (upd H5 t (.tup [.int s, x, .int w, y]))) E0) E0 := by
   intro s w s0 s1 w0 w1 H3 g3
   have hb3 := hb.tups (g3.tups hp)
   refine ⟨p, b, 0, rooms, tr, tm, ps, rfl, .inl rfl, hb3, gd, g3.2, fun x H4 x0 x1 g4 => ?_⟩
   exact ⟨p, b, 1, rooms, tr, tm, ps, rfl, .inr rfl, hb3.tups (g4.tups g3.2), gd, g4.2, fun y H5 y0 y1 g5 => ⟨by omega, fun t ht => q t s x w y _ ((g3.trans (g4.trans g5)).new ht) yn s0 s1 w0 w1 x0 x1 y0 y1⟩⟩
  refine ⟨_, rfl, b, _, _, _, rfl, rfl, SqT.of hb.book, rfl, tr, _, rfl, .inr (SqT.of hb.rooms), ?_⟩
  refine ⟨_, rfl, _, rfl, p, _, rfl, by omega, by omega, hp, fun s H1 s0 s1 g1 => ⟨_, rfl, _, rfl, p, _, rfl, by omega, by omega, g1.2, fun w H2 w0 w1 g2 => ?_⟩⟩
  refine ⟨_, rfl, _, rfl, rfl, _, rfl, iteD (fun c => ?_) (fun c => iteB0 rfl ?_)⟩
  ·refine ⟨_, rfl, p, _, rfl, by decide, by decide, g2.2, fun e H3 e0 e1 g3 => ⟨_, _, rfl, rfl, _, rfl, iteD (fun c2 => ?_) (fun c2 => ?_)⟩⟩
   ·refine ⟨_, rfl, _, _, rfl, rfl, _, rfl, _, _, rfl, rfl, by omega, ?_⟩
    have := fin s ((w + 1) % (((rooms.map V.int).length : Nat) : Int)) s0 (by omega) (yX _ (by omega)) (by have := yJ (w + 1) (show (0 : Int) < ((rooms.map V.int).length : Nat) by omega); omega) H3 (g1.trans (g2.trans g3))
    simp only [gTup, gCons, gNil, tYes, tBM, rAppend, gSub, tAugS, ipI, rU, rIxL, rIxT, rSetL, tSeq, tAsg, tIfS, tRet, tOp, tUn, rI0, rI, tVar, tC, gName, tCall, tCB, tCons, tNil, tAndV, tOrV, tNotV, tNext, tTest, tB, tNot, tAnd, tOr, tDrop, rEq, rNe, scal, tChain, tTup, tLst, tSl, tNoPart, tPart, cxOf, L2.start, zc, yd, zf, yK, Nat.reduceAdd, Nat.reduceSub, List.replicate, List.cons_append, List.nil_append, zy, List.getElem?_cons_zero, List.getElem?_cons_succ, Option.some.injEq, exists_eq_left', exists_eq_left, exists_and_left, and_assoc, V.int.injEq, V.ty.injEq, V.str.injEq, V.bl.injEq, V.ref.injEq, List.cons.injEq, and_true, true_and, List.set_cons_zero, List.set_cons_succ]
    exact this
   ·have := fin s w s0 (by omega) w0 (by omega) H3 (g1.trans (g2.trans g3))
    simp only [gTup, gCons, gNil, tYes, tBM, rAppend, gSub, tAugS, ipI, rU, rIxL, rIxT, rSetL, tSeq, tAsg, tIfS, tRet, tOp, tUn, rI0, rI, tVar, tC, gName, tCall, tCB, tCons, tNil, tAndV, tOrV, tNotV, tNext, tTest, tB, tNot, tAnd, tOr, tDrop, rEq, rNe, scal, tChain, tTup, tLst, tSl, tNoPart, tPart, cxOf, L2.start, zc, yd, zf, yK, Nat.reduceAdd, Nat.reduceSub, List.replicate, List.cons_append, List.nil_append, zy, List.getElem?_cons_zero, List.getElem?_cons_succ, Option.some.injEq, exists_eq_left', exists_eq_left, exists_and_left, and_assoc, V.int.injEq, V.ty.injEq, V.str.injEq, V.bl.injEq, V.ref.injEq, List.cons.injEq, and_true, true_and, List.set_cons_zero, List.set_cons_succ]
    exact this
  ·have := fin s w s0 (by omega) w0 (by omega) H2 (g1.trans g2)
   simp only [gTup, gCons, gNil, tYes, tBM, rAppend, gSub, tAugS, ipI, rU, rIxL, rIxT, rSetL, tSeq, tAsg, tIfS, tRet, tOp, tUn, rI0, rI, tVar, tC, gName, tCall, tCB, tCons, tNil, tAndV, tOrV, tNotV, tNext, tTest, tB, tNot, tAnd, tOr, tDrop, rEq, rNe, scal, tChain, tTup, tLst, tSl, tNoPart, tPart, cxOf, L2.start, zc, yd, zf, yK, Nat.reduceAdd, Nat.reduceSub, List.replicate, List.cons_append, List.nil_append, zy, List.getElem?_cons_zero, List.getElem?_cons_succ, Option.some.injEq, exists_eq_left', exists_eq_left, exists_and_left, and_assoc, V.int.injEq, V.ty.injEq, V.str.injEq, V.bl.injEq, V.ref.injEq, List.cons.injEq, and_true, true_and, List.set_cons_zero, List.set_cons_succ]
   exact this
theorem sc__law_letters : FnScope ["_law_purse_here", "_law_book_here", "_law_many"] ["_law_purse_here", "_law_book_here"] (defScope wF) := ⟨rfl, rfl, rfl, by decide +kernel, rfl, by decide +kernel, by decide +kernel⟩
theorem ok__law_letters (T : Tx K mg a) : FnOk P w K mg base CX0 5 a.a__law_letters a.d__law_letters ["_law_purse_here", "_law_book_here"] (spLetters) := by
 have G__law_take := @xN P w _ _ base _ T
 have G__law_letter := @ok__law_letter P w _ _ base _ T
 refine T.F__law_letters.ok sc__law_letters (fun vs H Q E h => ?_) (fun cdv A outer s H vs Q E hr h => ?_)
 ·obtain ⟨_, _, _, _, _, _, rfl, _⟩ := h; rfl
 ·have nd := sc__law_letters.nd
  have hu := hr.units
  obtain ⟨p, b, rooms, tr, tm, ps, rfl, hb, r1, r2, gd, pu, q⟩ := h
  refine ⟨_, (yw (xC (xB (i := 2) nd rfl (by first | exact Or.inl rfl | exact Or.inr rfl) (yx G__law_take (hr.mono (by decide)) rfl T.m__law_take T.k__law_take T.i__law_take .nil pass0 (yl (yo (pv 0) (yo yq yu rfl) rfl)))) (xC (xL (xA xg (yx G__law_take (hr.mono (by decide)) rfl T.m__law_take T.k__law_take T.i__law_take .nil pass0 (yl (yo (pv 0) (yo yq yu rfl) rfl))) yq (nomark _)) (yw (xK (xB (i := 2) nd rfl (by first | exact Or.inl rfl | exact Or.inr rfl) (yx G__law_take (hr.mono (by decide)) rfl T.m__law_take T.k__law_take T.i__law_take .nil pass0 (yl (yo (pv 0) (yo yq yu rfl) rfl)))))) xE) (xK (xJ (wD (own := ["_law_k"]) (caps := [0, 1]) rfl (show CompScope ["_law_k"] [0, 1] ["_law_purse_here", "_law_book_here", "_law_many"] (defScope wF) _ from ⟨rfl, by decide +kernel, by decide +kernel, by decide +kernel, by decide +kernel⟩) (xl rfl T.b_range (yl (yo (pv 2) yu rfl))) (fun _ _ _ _ => (y8 (i := 0) (show List.Nodup (["_law_k", "_law_purse_here", "_law_book_here"] : List Str) from by decide +kernel) rfl (by first | exact Or.inl rfl | exact Or.inr rfl))) (fun _ _ _ _ => wC) (fun _ _ _ _ => (yx G__law_letter (hr.mono (by decide)) rfl T.m__law_letter T.k__law_letter T.i__law_letter .nil pass0 (yl (yo (pv 1) (yo (pv 2) yu rfl) rfl)))))))))), ?_⟩
  have line := line9
  refine ⟨_, rfl, p, 7, rfl, by decide, by decide, pu, fun d1 H1 d0 d7 g1 => ?_⟩
  refine ⟨_, rfl, p, 8, rfl, by decide, by decide, g1.2, fun d2 H2 e0 e8 g2 => ⟨rfl, _, rfl, iteB (fun c => ?_) (fun c => ?_)⟩⟩
  ·refine ⟨_, rfl, p, 41, rfl, by decide, by decide, (g1.trans g2).2, fun d3 H3 f0 f41 g3 => ?_⟩
   have G := (g1.trans g2).trans g3
   obtain ⟨n, rfl⟩ := zO f0
   refine ⟨_, rfl, n, rfl, by omega, by omega, ?_⟩
   refine x6 (lo := 0) (m := n) (fun i τ acc H5 => ∃ ls : List (Addr × L4), (∃ t0, τ = [t0, some (.ref p), some (.ref b)]) /\ acc = (ls.map fun x => V.ref x.1) /\ ls.length = i /\ Go p H H5 /\ ∀ x ∈ ls, H5 x.1 = some (.tup (letRow x.2))) ⟨[], ⟨_, rfl⟩, rfl, rfl, G, fun _ h => nomatch h⟩ (by omega) ?_ ?_ ?_
   ·rintro i τ acc H5 ⟨ls, _, rfl, rfl, _⟩
    rw [zA]; exact zG _
   ·rintro i τ acc H5 C hi ⟨ls, ⟨t0, rfl⟩, rfl, li, G5, hr5⟩ hC
    have hb5 := hb.tups (G5.tups pu)
    refine ⟨_, rfl, _, rfl, p, b, rooms, tr, tm, ps, rfl, hb5, r1, r2, gd, G5.2, fun t s a w z H6 g6 ht s0 _ w0 _ _ _ _ _ => ?_⟩
    obtain ⟨s, rfl⟩ := zO s0
    obtain ⟨w, rfl⟩ := zO w0
    refine hC _ _ _ ⟨ls ++ [(t, ⟨s, w, a, z⟩)], ⟨_, rfl⟩, by rw [zL]; rfl, by rw [zT, li]; rfl, G5.trans g6, fun x hx => ?_⟩
    rcases zZ.mp hx with hx | hx
    ·exact g6.tups G5.2 _ _ (hr5 x hx)
    ·cases zM.mp hx
     exact ht
   ·rintro τ acc H5 ⟨ls, ⟨t0, rfl⟩, rfl, li, G5, hr5⟩ lc hlc
    have s6 := yt (o := HO.lst (ls.map fun x => V.ref x.1)) hlc
    exact q lc ls _ (G5.same s6) yn (fun x hx => s6 _ _ (hr5 x hx)) (by omega) (G5.2.ne hlc)
  ·have G := g1.trans g2
   obtain ⟨n, rfl⟩ := zO d0
   refine ⟨_, rfl, n, rfl, by omega, by omega, ?_⟩
   refine x6 (lo := 0) (m := n) (fun i τ acc H5 => ∃ ls : List (Addr × L4), (∃ t0, τ = [t0, some (.ref p), some (.ref b)]) /\ acc = (ls.map fun x => V.ref x.1) /\ ls.length = i /\ Go p H H5 /\ ∀ x ∈ ls, H5 x.1 = some (.tup (letRow x.2))) ⟨[], ⟨_, rfl⟩, rfl, rfl, G, fun _ h => nomatch h⟩ (by omega) ?_ ?_ ?_
   ·rintro i τ acc H5 ⟨ls, _, rfl, rfl, _⟩
    rw [zA]; exact zG _
   ·rintro i τ acc H5 C hi ⟨ls, ⟨t0, rfl⟩, rfl, li, G5, hr5⟩ hC
    have hb5 := hb.tups (G5.tups pu)
    refine ⟨_, rfl, _, rfl, p, b, rooms, tr, tm, ps, rfl, hb5, r1, r2, gd, G5.2, fun t s a w z H6 g6 ht s0 _ w0 _ _ _ _ _ => ?_⟩
    obtain ⟨s, rfl⟩ := zO s0
    obtain ⟨w, rfl⟩ := zO w0
    refine hC _ _ _ ⟨ls ++ [(t, ⟨s, w, a, z⟩)], ⟨_, rfl⟩, by rw [zL]; rfl, by rw [zT, li]; rfl, G5.trans g6, fun x hx => ?_⟩
    rcases zZ.mp hx with hx | hx
    ·exact g6.tups G5.2 _ _ (hr5 x hx)
    ·cases zM.mp hx
     exact ht
   ·rintro τ acc H5 ⟨ls, ⟨t0, rfl⟩, rfl, li, G5, hr5⟩ lc hlc
    have s6 := yt (o := HO.lst (ls.map fun x => V.ref x.1)) hlc
    exact q lc ls _ (G5.same s6) yn (fun x hx => s6 _ _ (hr5 x hx)) (by omega) (G5.2.ne hlc)
theorem sc_is_whole : FnScope ["thing"] ["thing"] (defScope s_is_whole) := ⟨rfl, rfl, rfl, by decide +kernel, rfl, by decide +kernel, by decide +kernel⟩
theorem ok_is_whole (T : Tx K mg a) : FnOk P w K mg base CX0 1 a.a_is_whole a.d_is_whole ["thing"] (spWhole) := by
 refine T.F_is_whole.ok sc_is_whole (fun vs H Q E h => ?_) (fun cdv A outer s H vs Q E hr h => ?_)
 ·obtain ⟨x, t, rfl, _⟩ := h; rfl
 ·have nd := sc_is_whole.nd
  have hu := hr.units
  obtain ⟨x, t, rfl, ht, k⟩ := h
  refine ⟨_, (yw (xK (xJ (pe_and (yz (call_isinst) (by rfl) T.b_isinstance zU (yl (yo (pv 0) (yo (pe_bltn (v := V.ty "int") rfl T.b_int PyProof.Rows.boot_int rfl) yu rfl) rfl))) (pe_one (pe_not (yz (call_isinst) (by rfl) T.b_isinstance zU (yl (yo (pv 0) (yo (pe_bltn (v := V.ty "bool") rfl T.b_bool PyProof.Rows.boot_bool rfl) yu rfl) rfl))))))))), ?_⟩
  refine ⟨_, rfl, x, t, "int", rfl, ht, .inl rfl, _, rfl, ?_⟩
  rcases tyS_six ht with rfl | rfl | rfl | rfl | rfl | rfl | rfl <;> first | exact iteB0 rfl k | exact iteB1 rfl ⟨_, rfl, x, _, "bool", rfl, ht, .inr (.inl rfl), _, rfl, k⟩
theorem sc_is_within : FnScope ["thing", "least", "most"] ["thing", "least", "most"] (defScope s_is_within) := ⟨rfl, rfl, rfl, by decide +kernel, rfl, by decide +kernel, by decide +kernel⟩
theorem ok_is_within (T : Tx K mg a) : FnOk P w K mg base CX0 2 a.a_is_within a.d_is_within ["thing", "least", "most"] (spWithin) := by
 have G_is_whole := @ok_is_whole P w _ _ base _ T
 refine T.F_is_within.ok sc_is_within (fun vs H Q E h => ?_) (fun cdv A outer s H vs Q E hr h => ?_)
 ·obtain ⟨x, t, lo, hi, rfl, _⟩ := h; rfl
 ·have nd := sc_is_within.nd
  have hu := hr.units
  obtain ⟨x, t, lo, hi, rfl, ht, k⟩ := h
  refine ⟨_, (yw (xK (xJ (pe_and (yx G_is_whole (hr.mono (by decide)) rfl T.m_is_whole T.k_is_whole T.i_is_whole .nil pass0 (yl (yo (pv 0) yu rfl))) (pe_one (pe_chain op_le op_le (pv 1) (pv 0) (pv 2))))))), ?_⟩
  refine ⟨_, rfl, x, t, rfl, ht, _, rfl, ?_⟩
  by_cases h : t = "int"
  ·subst h
   obtain ⟨i, rfl⟩ := tyS_int ht
   refine iteB1 rfl ⟨_, rfl, _, rfl, _, _, rfl, rfl, _, rfl, ?_⟩
   have k : Q (.bl (decide (lo <= i) && decide (i <= hi))) H := k
   by_cases h1 : lo <= i
   ·rw [decide_eq_true h1] at k ⊢
    exact iteB1 rfl ⟨_, rfl, _, _, rfl, rfl, k⟩
   ·rw [decide_eq_false h1] at k ⊢
    exact iteB0 rfl k
  ·rw [inB_no ht h] at k
   exact iteB0 (by simpa using h) k
theorem sc_is_below : FnScope ["number", "bound"] ["number", "bound"] (defScope s_is_below) := ⟨rfl, rfl, rfl, by decide +kernel, rfl, by decide +kernel, by decide +kernel⟩
theorem ok_is_below (T : Tx K mg a) : FnOk P w K mg base CX0 1 a.a_is_below a.d_is_below ["number", "bound"] (spBelow) := by
 refine T.F_is_below.ok sc_is_below (fun vs H Q E h => ?_) (fun cdv A outer s H vs Q E hr h => ?_)
 ·obtain ⟨o, t, rfl, _⟩ := h; rfl
 ·have nd := sc_is_below.nd
  have hu := hr.units
  obtain ⟨o, t, rfl, q⟩ := h
  refine ⟨_, (yw (xK (xJ (pe_and (pe_cmp (pc_notN (pv 0))) (pe_one (pe_cmpR op_lt (pv 0) (pv 1) (nomark _))))))), ?_⟩
  cases o with
  | none => exact ⟨_, rfl, _, rfl, iteB0 rfl q⟩
  | some y => exact ⟨_, rfl, _, rfl, iteB1 rfl ⟨_, rfl, _, rfl, _, _, rfl, rfl, q⟩⟩
theorem sc_is_meeting_number : FnScope ["book", "thing"] ["book", "thing"] (defScope xr) := ⟨rfl, rfl, rfl, by decide +kernel, rfl, by decide +kernel, by decide +kernel⟩
theorem ok_is_meeting_number (T : Tx K mg a) : FnOk P w K mg base CX0 3 a.a_is_meeting_number a.d_is_meeting_number ["book", "thing"] (spIsMeetNo) := by
 have G_is_within := @ok_is_within P w _ _ base _ T
 refine T.F_is_meeting_number.ok sc_is_meeting_number (fun vs H Q E h => ?_) (fun cdv A outer s H vs Q E hr h => ?_)
 ·obtain ⟨b, x, t, _, _, _, _, rfl, _⟩ := h; rfl
 ·have nd := sc_is_meeting_number.nd
  have hu := hr.units
  obtain ⟨b, x, t, rooms, tr, tm, ps, rfl, hb, ht, q⟩ := h
  refine ⟨_, (yw (xK (xJ (yx G_is_within (hr.mono (by decide)) rfl T.m_is_within T.k_is_within T.i_is_within .nil pass0 (yl (yo (pv 1) (yo yq (yo (xI op_sub (yz (y6 rfl) (by rfl) T.b_len PySem.boot_len (yl (yo (xD (xH rfl) (pv 0) yq (fun _ _ => rfl)) yu rfl))) yq) yu rfl) rfl) rfl)))))), ?_⟩
  refine ⟨_, rfl, _, rfl, b, _, _, _, rfl, rfl, SqT.of hb.book, rfl, tm, _, rfl, .inr (SqT.of hb.meets), _, _, rfl, rfl, x, t, _, _, rfl, ht, ?_⟩
  rw [zA]
  exact q
theorem sc_is_walker : FnScope ["book", "thing"] ["book", "thing"] (defScope s_is_walker) := ⟨rfl, rfl, rfl, by decide +kernel, rfl, by decide +kernel, by decide +kernel⟩
theorem ok_is_walker (T : Tx K mg a) : FnOk P w K mg base CX0 3 a.a_is_walker a.d_is_walker ["book", "thing"] (spIsWalker) := by
 have G_is_within := @ok_is_within P w _ _ base _ T
 refine T.F_is_walker.ok sc_is_walker (fun vs H Q E h => ?_) (fun cdv A outer s H vs Q E hr h => ?_)
 ·obtain ⟨b, x, t, _, _, _, _, rfl, _⟩ := h; rfl
 ·have nd := sc_is_walker.nd
  have hu := hr.units
  obtain ⟨b, x, t, rooms, tr, tm, ps, rfl, hb, ht, q⟩ := h
  refine ⟨_, (yw (xK (xJ (yx G_is_within (hr.mono (by decide)) rfl T.m_is_within T.k_is_within T.i_is_within .nil pass0 (yl (yo (pv 1) (yo yq (yo (xI op_sub (yz (y6 rfl) (by rfl) T.b_len PySem.boot_len (yl (yo (xD (xH rfl) (pv 0) yq (fun _ _ => rfl)) yu rfl))) yq) yu rfl) rfl) rfl)))))), ?_⟩
  refine ⟨_, rfl, _, rfl, b, _, _, _, rfl, rfl, SqT.of hb.book, rfl, tr, _, rfl, .inr (SqT.of hb.rooms), _, _, rfl, rfl, x, t, _, _, rfl, ht, ?_⟩
  rw [zA]
  exact q
theorem sc_other_at : FnScope ["book", "number", "walker", "one", "other", "when", "many"] ["book", "number", "walker"] (defScope s_other_at) := ⟨rfl, rfl, rfl, by decide +kernel, rfl, by decide +kernel, by decide +kernel⟩
theorem ok_other_at (T : Tx K mg a) : FnOk P w K mg base CX0 1 a.a_other_at a.d_other_at ["book", "number", "walker"] (spOtherAt) := by
 refine T.F_other_at.ok sc_other_at (fun vs H Q E h => ?_) (fun cdv A outer s H vs Q E hr h => ?_)
 ·obtain ⟨b, k, v, _, _, _, _, _, rfl, _⟩ := h; rfl
 ·have nd := sc_other_at.nd
  have hu := hr.units
  obtain ⟨b, k, v, rooms, tr, tm, ps, m, rfl, hb, hm, q⟩ := h
  refine ⟨_, (yw (xC (ps_asg (xD (xH rfl) (xD (xH rfl) (pv 0) yq (fun _ _ => rfl)) (pv 1) (fun _ _ => rfl)) (xw (n := 4) rfl rfl (xF (y8 (i := 3) nd rfl (by first | exact Or.inl rfl | exact Or.inr rfl)) (xF (y8 (i := 4) nd rfl (by first | exact Or.inl rfl | exact Or.inr rfl)) (xF (y8 (i := 5) nd rfl (by first | exact Or.inl rfl | exact Or.inr rfl)) (xF (y8 (i := 6) nd rfl (by first | exact Or.inl rfl | exact Or.inr rfl)) xm)))))) (xK (xJ (pe_ifExp (xA xg (pv 2) (pv 3) (nomark _)) (pv 4) (pv 3)))))), ?_⟩
  have hk : k < ps.length := by
   have := (zB.mp hm).1
   simpa using this
  have em : ps[k].2 = m := by
   rw [zC, zE hk] at hm
   exact Option.some.inj hm
  have hrow := hb.rows _ (zY hk)
  rw [em] at hrow
  refine ⟨_, rfl, b, _, _, _, rfl, rfl, SqT.of hb.book, rfl, _, rfl, tm, _, _, _, rfl, rfl, SqT.of hb.meets, xM (v := V.ref ps[k].1) (by simp [hk]), ps[k].1, _, rfl, SqT.of hrow, rfl, _, _, rfl, _, _, rfl, _, _, rfl, _, _, rfl, rfl, ?_⟩
  refine ⟨_, rfl, _, rfl, rfl, _, rfl, iteD (fun c => ?_) (fun c => ?_)⟩
  ·rw [if_pos (V.int.inj c)] at q
   exact ⟨_, rfl, q⟩
  ·rw [if_neg fun z => c (by rw [z])] at q
   exact ⟨_, rfl, q⟩
theorem sc_are_wholes : FnScope ["things"] ["things"] (defScope s_are_wholes) := ⟨rfl, rfl, rfl, by decide +kernel, rfl, by decide +kernel, by decide +kernel⟩
theorem ok_are_wholes (T : Tx K mg a) : FnOk P w K mg base CX0 2 a.a_are_wholes a.d_are_wholes ["things"] (spAreW) := by
 have G_is_whole := @ok_is_whole P w _ _ base _ T
 refine T.F_are_wholes.ok sc_are_wholes (fun vs H Q E h => ?_) (fun cdv A outer s H vs Q E hr h => ?_)
 ·obtain ⟨_, _, rfl, _⟩ := h; rfl
 ·have nd := sc_are_wholes.nd
  have hu := hr.units
  obtain ⟨p, ns, rfl, hp, n10, q⟩ := h
  refine ⟨_, (yw (xK (xJ (yz (call_all rfl rfl) (by rfl) T.b_all PyProof.Rows.boot_all (yl (yo (wD (own := ["thing"]) (caps := []) rfl (show CompScope ["thing"] [] ["things"] (defScope s_are_wholes) _ from ⟨rfl, by decide +kernel, by decide +kernel, by decide +kernel, by decide +kernel⟩) (pi_tup'' rfl (pv 0)) (fun _ _ _ _ => (y8 (i := 0) (show List.Nodup (["thing"] : List Str) from by decide +kernel) rfl (by first | exact Or.inl rfl | exact Or.inr rfl))) (fun _ _ _ _ => wC) (fun _ _ _ _ => (yx G_is_whole (hr.mono (by decide)) rfl T.m_is_whole T.k_is_whole T.i_is_whole .nil pass0 (yl (yo (pv 0) yu rfl))))) yu rfl)))))), ?_⟩
  have line := line9
  refine ⟨_, rfl, p, rfl, ⟨_, SqT.of hp⟩, ?_⟩
  refine comp_tup (K := K) (a := p) (xs := ns.map V.int) (fun i τ acc H5 => (∃ t0, τ = [t0]) /\ acc = (List.replicate i true).map V.bl /\ H5 = H) ⟨⟨_, rfl⟩, rfl, rfl⟩ (by rw [zA]; omega) ?_ ?_ ?_
  ·rintro i τ acc H5 ⟨_, rfl, rfl⟩
   exact ⟨by simp, SqT.of hp⟩
  ·rintro i x τ acc H5 C hx ⟨⟨t0, rfl⟩, rfl, rfl⟩ hC
   obtain ⟨j, _, rfl⟩ := xO hx
   exact ⟨_, rfl, .int j, "int", rfl, rfl, hC _ _ _ ⟨⟨_, rfl⟩, by rw [List.replicate_succ', zL]; rfl, rfl⟩⟩
  ·rintro τ acc H5 ⟨_, rfl, rfl⟩ l hl
   refine ⟨l, _, rfl, SqL.of yn, ?_⟩
   have : (List.replicate (ns.map V.int).length true).all id = true := by simp
   rw [this]
   exact q _ (yt hl)
theorem sc_is_passing : FnScope ["thing"] ["thing"] (defScope s_is_passing) := ⟨rfl, rfl, rfl, by decide +kernel, rfl, by decide +kernel, by decide +kernel⟩
theorem ok_is_passing (T : Tx K mg a) : FnOk P w K mg base CX0 3 a.a_is_passing a.d_is_passing ["thing"] (spIsPass) := by
 have G_are_wholes := @ok_are_wholes P w _ _ base _ T
 refine T.F_is_passing.ok sc_is_passing (fun vs H Q E h => ?_) (fun cdv A outer s H vs Q E hr h => ?_)
 ·obtain ⟨_, rfl, _⟩ := h; rfl
 ·have nd := sc_is_passing.nd
  have hu := hr.units
  obtain ⟨y, rfl, h⟩ := h
  refine ⟨_, (yw (xK (xJ (pe_and (yz (call_isinst) (by rfl) T.b_isinstance zU (yl (yo (pv 0) (yo (pe_bltn (v := V.ty "tuple") rfl T.b_tuple PyProof.Rows.boot_tuple rfl) yu rfl) rfl))) (pe_and (pe_cmpR xg (yz (y6 rfl) (by rfl) T.b_len PySem.boot_len (yl (yo (pv 0) yu rfl))) yq (nomark _)) (pe_and (pe_cmpR (op_in_seq' rfl) (xD (xH rfl) (pv 0) yq (fun _ _ => rfl)) (xq (yl (yo xh (yo xh yu rfl) rfl))) rfl) (pe_one (yx G_are_wholes (hr.mono (by decide)) rfl T.m_are_wholes T.k_are_wholes T.i_are_wholes .nil pass0 (yl (yo (pe_slice (sl_tup' rfl) (pv 0) (po_some yq) po_none) yu rfl)))))))))), ?_⟩
  have line := line9
  rcases h with ⟨d, ⟨p, rfl, hp⟩, q⟩ | ⟨p, xs, rfl, hp, q⟩
  ·cases d with
   | drop l w0 => exact ⟨_, rfl, _, "tuple", "tuple", rfl, tyS_tup hp, .inr (.inr (.inr rfl)), _, rfl, iteB1 rfl ⟨_, rfl, p, _, rfl, .inr (SqT.of hp), rfl, _, rfl, iteB0 rfl (q H (Same.refl _))⟩⟩
   | pass gv m l g =>
    cases gv
    ·refine ⟨_, rfl, _, "tuple", "tuple", rfl, tyS_tup hp, .inr (.inr (.inr rfl)), _, rfl, iteB1 rfl ⟨_, rfl, p, _, rfl, .inr (SqT.of hp), rfl, _, rfl, iteB1 rfl ⟨_, rfl, p, _, _, _, rfl, rfl, SqT.of hp, rfl, by show 2 <= _; omega, fun t2 ht2 => ⟨t2, _, rfl, .inr (SqT.of yn), rfl, rfl, _, rfl, iteB1 rfl ?_⟩⟩⟩⟩
     have s1 := yt (o := HO.tup [V.str (Str.ofString "give"), V.str (Str.ofString "copy")]) ht2
     have hp1 := s1 _ _ hp
     generalize upd H t2 (HO.tup [V.str (Str.ofString "give"), V.str (Str.ofString "copy")]) = H1 at s1 hp1 ⊢
     refine ⟨_, rfl, _, rfl, p, _, rfl, SqT.of hp1, fun z => (by have := z.1; revert this; show HT.sIx 4 0 (some 1) = 0 -> False; decide), fun t3 ht3 => ?_⟩
     have s2 := yt (o := HO.tup (List.map V.int [m, l, g])) ht3
     refine ⟨t3, [m, l, g], rfl, yn, by show 3 <= 10; decide, fun H3 s3 => ?_⟩
     exact q _ (s1.trans (s2.trans s3))
    ·refine ⟨_, rfl, _, "tuple", "tuple", rfl, tyS_tup hp, .inr (.inr (.inr rfl)), _, rfl, iteB1 rfl ⟨_, rfl, p, _, rfl, .inr (SqT.of hp), rfl, _, rfl, iteB1 rfl ⟨_, rfl, p, _, _, _, rfl, rfl, SqT.of hp, rfl, by show 2 <= _; omega, fun t2 ht2 => ⟨t2, _, rfl, .inr (SqT.of yn), rfl, rfl, _, rfl, iteB1 rfl ?_⟩⟩⟩⟩
     have s1 := yt (o := HO.tup [V.str (Str.ofString "give"), V.str (Str.ofString "copy")]) ht2
     have hp1 := s1 _ _ hp
     generalize upd H t2 (HO.tup [V.str (Str.ofString "give"), V.str (Str.ofString "copy")]) = H1 at s1 hp1 ⊢
     refine ⟨_, rfl, _, rfl, p, _, rfl, SqT.of hp1, fun z => (by have := z.1; revert this; show HT.sIx 4 0 (some 1) = 0 -> False; decide), fun t3 ht3 => ?_⟩
     have s2 := yt (o := HO.tup (List.map V.int [m, l, g])) ht3
     refine ⟨t3, [m, l, g], rfl, yn, by show 3 <= 10; decide, fun H3 s3 => ?_⟩
     exact q _ (s1.trans (s2.trans s3))
  ·exact ⟨_, rfl, _, "list", "tuple", rfl, tyS_lst hp, .inr (.inr (.inr rfl)), _, rfl, iteB0 rfl q⟩
theorem sc_is_drop : FnScope ["thing"] ["thing"] (defScope s_is_drop) := ⟨rfl, rfl, rfl, by decide +kernel, rfl, by decide +kernel, by decide +kernel⟩
theorem ok_is_drop (T : Tx K mg a) : FnOk P w K mg base CX0 3 a.a_is_drop a.d_is_drop ["thing"] (spIsDrop) := by
 have G_are_wholes := @ok_are_wholes P w _ _ base _ T
 refine T.F_is_drop.ok sc_is_drop (fun vs H Q E h => ?_) (fun cdv A outer s H vs Q E hr h => ?_)
 ·obtain ⟨_, rfl, _⟩ := h; rfl
 ·have nd := sc_is_drop.nd
  have hu := hr.units
  obtain ⟨y, rfl, h⟩ := h
  refine ⟨_, (yw (xK (xJ (pe_and (yz (call_isinst) (by rfl) T.b_isinstance zU (yl (yo (pv 0) (yo (pe_bltn (v := V.ty "tuple") rfl T.b_tuple PyProof.Rows.boot_tuple rfl) yu rfl) rfl))) (pe_and (pe_cmpR xg (yz (y6 rfl) (by rfl) T.b_len PySem.boot_len (yl (yo (pv 0) yu rfl))) yq (nomark _)) (pe_and (pe_cmpR xg (xD (xH rfl) (pv 0) yq (fun _ _ => rfl)) xh (nomark _)) (pe_one (yx G_are_wholes (hr.mono (by decide)) rfl T.m_are_wholes T.k_are_wholes T.i_are_wholes .nil pass0 (yl (yo (pe_slice (sl_tup' rfl) (pv 0) (po_some yq) po_none) yu rfl)))))))))), ?_⟩
  have line := line9
  rcases h with ⟨l, w0, ⟨p, rfl, hp⟩, q⟩ | ⟨p, xs, rfl, hp, q⟩
  ·refine ⟨_, rfl, _, "tuple", "tuple", rfl, tyS_tup hp, .inr (.inr (.inr rfl)), _, rfl, iteB1 rfl ⟨_, rfl, p, _, rfl, .inr (SqT.of hp), rfl, _, rfl, iteB1 rfl ⟨_, rfl, p, _, _, _, rfl, rfl, SqT.of hp, rfl, rfl, _, rfl, iteB1 rfl ?_⟩⟩⟩
   refine ⟨_, rfl, _, rfl, p, _, rfl, SqT.of hp, fun z => (by have := z.1; revert this; show HT.sIx 3 0 (some 1) = 0 -> False; decide), fun t3 ht3 => ?_⟩
   have s2 := yt (o := HO.tup (List.map V.int [l, w0])) ht3
   exact ⟨t3, [l, w0], rfl, yn, by show 2 <= 10; decide, fun H3 s3 => q _ (s2.trans s3)⟩
  ·exact ⟨_, rfl, _, "list", "tuple", rfl, tyS_lst hp, .inr (.inr (.inr rfl)), _, rfl, iteB0 rfl q⟩
theorem sc_Trip_takes_room : FnScope ["self", "letter", "walker", "sender", "since", "wish", "last"] ["self", "letter", "walker"] (defScope wG) := ⟨rfl, rfl, rfl, by decide +kernel, rfl, by decide +kernel, by decide +kernel⟩
theorem ok_Trip_takes_room (T : Tx K mg a) : FnOk P w K mg base CX0 1 a.a_Trip_takes_room a.d_Trip_takes_room ["self", "letter", "walker"] (spTakes a.c_Trip) := by
 refine T.F_Trip_takes_room.ok sc_Trip_takes_room (fun vs H Q E h => ?_) (fun cdv A outer s H vs Q E hr h => ?_)
 ·obtain ⟨_, _, _, _, _, _, _, _, _, _, _, _, _, _, _, _, _, rfl, _⟩ := h; rfl
 ·have nd := sc_Trip_takes_room.nd
  have hu := hr.units
  obtain ⟨x, b, dx, lL, lH, lA, lP, lD, ls, hs, os, ns, r, ds, n, w0, l, rfl, t, hn, q⟩ := h
  refine ⟨_, (yw (xC (ps_asg (xD (xG rfl) (xQ (pv 0) rfl) (pv 1) (fun _ _ => rfl)) (xw (n := 4) rfl rfl (xF (y8 (i := 3) nd rfl (by first | exact Or.inl rfl | exact Or.inr rfl)) (xF (y8 (i := 4) nd rfl (by first | exact Or.inl rfl | exact Or.inr rfl)) (xF (y8 (i := 5) nd rfl (by first | exact Or.inl rfl | exact Or.inr rfl)) (xF (y8 (i := 6) nd rfl (by first | exact Or.inl rfl | exact Or.inr rfl)) xm)))))) (xK (xJ (pe_cmpR op_notIn_seq (pv 2) (xq (yl (yo (pv 3) (yo (pv 5) yu rfl) rfl))) rfl))))), ?_⟩
  have line := line9
  have hl := t.rows l (zD hn)
  have at1 : atI (ls.map fun l => V.ref l.1) (n : Int) = some (V.ref l.1) := xM (by rw [zC, hn]; rfl)
  refine ⟨_, rfl, x, _, dx, _, _, rfl, t.ins, T.L_Trip, T.n_Trip_letters, rfl, _, rfl, lL, _, _, _, rfl, rfl, SqL.of t.lts, at1, l.1, _, rfl, SqT.of hl, rfl, _, _, rfl, _, _, rfl, _, _, rfl, _, _, rfl, rfl, ?_⟩
  refine ⟨_, rfl, _, rfl, _, rfl, by show 2 <= _; omega, fun t2 ht2 => ⟨t2, _, rfl, .inr (SqT.of yn), rfl, rfl, ?_⟩⟩
  have e : inV (V.int w0) [V.int (l.2.s : Int), V.int (l.2.w : Int)] = (decide (w0 = l.2.s) || decide (w0 = l.2.w)) := by
   simp [inV, eqV_int]
   congr 1 <;> exact decide_eq_decide.mpr ⟨Eq.symm, Eq.symm⟩
  show Q (.bl (!inV (V.int w0) [V.int (l.2.s : Int), V.int (l.2.w : Int)])) _
  rw [e]
  exact q _ (yt ht2)
theorem sc_Trip_note_arrival : FnScope ["self", "letter", "walker", "time", "sender", "since", "wish", "last"] ["self", "letter", "walker", "time"] (defScope xt) := ⟨rfl, rfl, rfl, by decide +kernel, rfl, by decide +kernel, by decide +kernel⟩
theorem ok_Trip_note_arrival (T : Tx K mg a) : FnOk P w K mg base CX0 1 a.a_Trip_note_arrival a.d_Trip_note_arrival ["self", "letter", "walker", "time"] (spNote a.c_Trip) := by
 refine T.F_Trip_note_arrival.ok sc_Trip_note_arrival (fun vs H Q E h => ?_) (fun cdv A outer s H vs Q E hr h => ?_)
 ·obtain ⟨_, _, _, _, _, _, _, _, _, _, _, _, _, _, _, _, _, _, rfl, _⟩ := h; rfl
 ·have nd := sc_Trip_note_arrival.nd
  have hu := hr.units
  obtain ⟨x, b, dx, lL, lH, lA, lP, lD, ls, hs, os, ns, r, ds, n, w0, t0, l, rfl, t, hn, ho, q⟩ := h
  refine ⟨_, (yw (xC (ps_asg (xD (xG rfl) (xQ (pv 0) rfl) (pv 1) (fun _ _ => rfl)) (xw (n := 4) rfl rfl (xF (y8 (i := 4) nd rfl (by first | exact Or.inl rfl | exact Or.inr rfl)) (xF (y8 (i := 5) nd rfl (by first | exact Or.inl rfl | exact Or.inr rfl)) (xF (y8 (i := 6) nd rfl (by first | exact Or.inl rfl | exact Or.inr rfl)) (xF (y8 (i := 7) nd rfl (by first | exact Or.inl rfl | exact Or.inr rfl)) xm)))))) (xK (xL (PW.pt (pw_and (xA xg (pv 2) (pv 6) (nomark _)) (pw_and (xA op_le (pv 3) (pv 7) (nomark _)) (pw_and1 (pt_cmp (pc_isN (xD (xG rfl) (xQ (pv 0) rfl) (pv 1) (fun _ _ => rfl)))))))) (yw (xK (ps_asg (pv 3) (pg_sub (xQ (pv 0) rfl) (pv 1) set_list)))) xE)))), ?_⟩
  have line := line9
  have hl := t.rows l (zD hn)
  have at1 : atI (ls.map fun l => V.ref l.1) (n : Int) = some (V.ref l.1) := xM (by rw [zC, hn]; rfl)
  refine ⟨_, rfl, x, _, dx, _, _, rfl, t.ins, T.L_Trip, T.n_Trip_letters, rfl, _, rfl, lL, _, _, _, rfl, rfl, SqL.of t.lts, at1, l.1, _, rfl, SqT.of hl, rfl, _, _, rfl, _, _, rfl, _, _, rfl, _, _, rfl, rfl, ?_⟩
  obtain ⟨o, eo⟩ : ∃ o, os[n]? = some o := ⟨_, zE ho⟩
  have at2 : atI (os.map oV) (n : Int) = some (oV o) := xM (by rw [zC, eo]; rfl)
  have stay : ¬ (w0 = l.2.w /\ t0 <= l.2.z /\ os[n]? = some none) -> Q .non H := fun c => q H (fun _ _ _ e => e) (by rw [noteA, if_neg c]; exact t.arr)
  refine ⟨_, rfl, _, rfl, rfl, _, rfl, ?_⟩
  by_cases c1 : w0 = l.2.w
  ·refine iteB1 (by rw [c1]; simp) ⟨_, rfl, _, rfl, _, _, rfl, rfl, _, rfl, iteD (fun c2 => ?_) (fun c2 => stay fun c => c2 c.2.1)⟩
   refine ⟨_, rfl, x, _, dx, _, _, rfl, t.ins, T.L_Trip, T.n_Trip_arrivals, rfl, _, rfl, lA, _, _, _, rfl, rfl, SqL.of t.arr, at2, _, rfl, ?_⟩
   cases o with
   | some i => exact iteB0 rfl (stay fun c => by rw [eo] at c; cases c.2.2)
   | none =>
    refine iteB1 rfl ⟨_, rfl, _, rfl, x, _, dx, _, _, rfl, t.ins, T.L_Trip, T.n_Trip_arrivals, rfl, _, rfl, lA, _, _, n, rfl, rfl, t.arr, by rw [zA]; unfold ixN; rw [if_pos (by omega), if_pos (by omega)]; simp, ?_⟩
    refine q _ But.set ?_
    rw [yn, noteA, if_pos ⟨c1, c2, eo⟩, ye]
    rfl
  ·exact iteB0 (by simp [c1]) (stay fun c => c1 c.1)
theorem sc_Trip___init__ : FnScope ["self", "book", "letters", "number", "sender", "since", "wish", "last"] ["self", "book", "letters"] (defScope xY) := ⟨rfl, rfl, rfl, by decide +kernel, rfl, by decide +kernel, by decide +kernel⟩
theorem ok_Trip___init__ (T : Tx K mg a) : FnOk P w K mg base CX0 2 a.a_Trip___init__ a.d_Trip___init__ ["self", "book", "letters"] (spInit2 a.c_Trip) := by
 have G_Trip_note_arrival := @ok_Trip_note_arrival P w _ _ base _ T
 refine T.F_Trip___init__.ok sc_Trip___init__ (fun vs H Q E h => ?_) (fun cdv A outer s H vs Q E hr h => ?_)
 ·obtain ⟨_, _, _, _, _, _, _, _, _, rfl, _⟩ := h; rfl
 ·have nd := sc_Trip___init__.nd
  have hu := hr.units
  obtain ⟨x, dx, b, l0, ls, rooms, tr, tm, ps, rfl, hx, hb, gd, rm, hl0, hrw, n41, q⟩ := h
  refine ⟨_, (yw (xC (ps_fld (pv 0) (pv 1) rfl) (xC (ps_fld (pv 0) (pe_callTy (call_list_of' rfl) (by rfl) T.b_list PyProof.Rows.boot_list (yl (yo (pv 2) yu rfl))) rfl) (xC (ps_fld (pv 0) (wD (own := ["sender", "since", "wish", "last"]) (caps := []) rfl (show CompScope ["sender", "since", "wish", "last"] [] ["self", "book", "letters", "number", "sender", "since", "wish", "last"] (defScope xY) _ from ⟨rfl, by decide +kernel, by decide +kernel, by decide +kernel, by decide +kernel⟩) (pi_list' rfl (xQ (pv 0) rfl)) (fun _ _ _ _ => (xw (n := 4) rfl rfl (xF (y8 (i := 0) (show List.Nodup (["sender", "since", "wish", "last"] : List Str) from by decide +kernel) rfl (by first | exact Or.inl rfl | exact Or.inr rfl)) (xF (y8 (i := 1) (show List.Nodup (["sender", "since", "wish", "last"] : List Str) from by decide +kernel) rfl (by first | exact Or.inl rfl | exact Or.inr rfl)) (xF (y8 (i := 2) (show List.Nodup (["sender", "since", "wish", "last"] : List Str) from by decide +kernel) rfl (by first | exact Or.inl rfl | exact Or.inr rfl)) (xF (y8 (i := 3) (show List.Nodup (["sender", "since", "wish", "last"] : List Str) from by decide +kernel) rfl (by first | exact Or.inl rfl | exact Or.inr rfl)) xm)))))) (fun _ _ _ _ => wC) (fun _ _ _ _ => (pe_disp (pps_cons (pv 0) (pv 1) pps_nil) rfl rfl (by intro h; cases h) (by decide)))) rfl) (xC (ps_fld (pv 0) (wD (own := ["letter"]) (caps := []) rfl (show CompScope ["letter"] [] ["self", "book", "letters", "number", "sender", "since", "wish", "last"] (defScope xY) _ from ⟨rfl, by decide +kernel, by decide +kernel, by decide +kernel, by decide +kernel⟩) (pi_list' rfl (xQ (pv 0) rfl)) (fun _ _ _ _ => (y8 (i := 0) (show List.Nodup (["letter"] : List Str) from by decide +kernel) rfl (by first | exact Or.inl rfl | exact Or.inr rfl))) (fun _ _ _ _ => wC) (fun _ _ _ _ => pe_non)) rfl) (xC (ps_fld (pv 0) (wD (own := ["meeting"]) (caps := []) rfl (show CompScope ["meeting"] [] ["self", "book", "letters", "number", "sender", "since", "wish", "last"] (defScope xY) _ from ⟨rfl, by decide +kernel, by decide +kernel, by decide +kernel, by decide +kernel⟩) (pi_tup'' rfl (xD (xH rfl) (pv 1) yq (fun _ _ => rfl))) (fun _ _ _ _ => (y8 (i := 0) (show List.Nodup (["meeting"] : List Str) from by decide +kernel) rfl (by first | exact Or.inl rfl | exact Or.inr rfl))) (fun _ _ _ _ => wC) (fun _ _ _ _ => yq)) rfl) (xC (ps_fld (pv 0) yq rfl) (xC (ps_fld (pv 0) (xS wB) rfl) (xK (ps_for PassesOwn.never rfl (pi_enumL rfl rfl T.b_enumerate (yl (yo (xQ (pv 0) rfl) yu rfl))) (xw (n := 2) rfl rfl (xF (y8 (i := 3) nd rfl (by first | exact Or.inl rfl | exact Or.inr rfl)) (xF (xw (n := 4) rfl rfl (xF (y8 (i := 4) nd rfl (by first | exact Or.inl rfl | exact Or.inr rfl)) (xF (y8 (i := 5) nd rfl (by first | exact Or.inl rfl | exact Or.inr rfl)) (xF (y8 (i := 6) nd rfl (by first | exact Or.inl rfl | exact Or.inr rfl)) (xF (y8 (i := 7) nd rfl (by first | exact Or.inl rfl | exact Or.inr rfl)) xm))))) xm))) (yw (xK (xX (xa (pv 0) T.L_Trip T.M_Trip_note_arrival G_Trip_note_arrival (hr.mono (by decide)) T.i_Trip_note_arrival .nil pass0 (yl (yo (pv 3) (yo (pv 4) (yo (pv 5) yu rfl) rfl) rfl)))))))))))))))), ?_⟩
  have h60 := gd.len
  have line := line9
  refine ⟨_, rfl, _, rfl, x, _, dx, _, rfl, hx, T.L_Trip, T.n_Trip_book, by decide, ?_⟩
  have b1 : But x H (upd H x (.ins a.c_Trip dx (putF "book" (.ref b) []))) := But.set
  have i1 : upd H x (.ins a.c_Trip dx (putF "book" (.ref b) [])) x = some (.ins a.c_Trip dx [("book", .ref b)]) := yn
  generalize upd H x (.ins a.c_Trip dx (putF "book" (.ref b) [])) = H1 at b1 i1 ⊢
  have tu : ∀ H', But x H H' -> Tups H H' := fun H' z c xs e => z c _ (xU e hx (by intro z; cases z)) e
  have n0 : l0 ≠ x := xU hl0 hx (by intro z; cases z)
  refine ⟨_, rfl, l0, _, rfl, .inl (SqL.of (b1 _ _ n0 hl0)), fun lL hL => ?_⟩
  have nL : lL ≠ x := (yr i1 hL).symm
  have s2 := yt (o := HO.lst (ls.map fun l => V.ref l.1)) hL
  have kL : upd H1 lL (HO.lst (ls.map fun l => V.ref l.1)) lL = some (.lst (ls.map fun l => V.ref l.1)) := yn
  have i2 := s2 _ _ i1
  generalize upd H1 lL (HO.lst (ls.map fun l => V.ref l.1)) = H2 at s2 kL i2 ⊢
  refine ⟨_, rfl, x, _, dx, _, rfl, i2, T.L_Trip, T.n_Trip_letters, by show 1 < 1000; decide, ?_⟩
  have b3 : But x H (upd H2 x (.ins a.c_Trip dx (putF "letters" (.ref lL) [("book", .ref b)]))) := (b1.trans (Same.but s2)).trans But.set
  have i3 : upd H2 x (.ins a.c_Trip dx (putF "letters" (.ref lL) [("book", .ref b)])) x = some (.ins a.c_Trip dx [("book", .ref b), ("letters", .ref lL)]) := yn
  replace kL : upd H2 x (.ins a.c_Trip dx (putF "letters" (.ref lL) [("book", .ref b)])) lL = some (.lst (ls.map fun l => V.ref l.1)) := by rw [yy nL]; exact kL
  generalize upd H2 x (.ins a.c_Trip dx (putF "letters" (.ref lL) [("book", .ref b)])) = H3 at b3 i3 kL ⊢
  have rw3 : ∀ l ∈ ls, H3 l.1 = some (.tup (letRow l.2)) := fun l hl => tu _ b3 _ _ (hrw l hl)
  refine ⟨_, rfl, x, _, dx, _, _, rfl, i3, T.L_Trip, T.n_Trip_letters, rfl, lL, rfl, ⟨_, SqL.of kL⟩, ?_⟩
  refine comp_list (K := K) (a := lL) (xs := ls.map fun l => V.ref l.1) (fun i τ acc H5 => (∃ t0 t1 t2 t3, τ = [t0, t1, t2, t3]) /\ ∃ hs : List (Addr × List (Int × Int)), acc = (hs.map fun h => V.ref h.1) /\ hs.map (·.2) = (ls.take i).map (fun l => [((l.2.s : Int), l.2.a)]) /\ Same H3 H5 /\ (∀ h ∈ hs, H3 h.1 = none /\ H5 h.1 = some (.dK (kvV h.2))) /\ (hs.map (·.1)).Nodup) ⟨⟨_, _, _, _, rfl⟩, [], rfl, rfl, Same.refl _, (fun _ h => nomatch h), List.nodup_nil⟩ (by rw [zA]; omega) ?_ ?_ ?_
  ·rintro i τ acc H5 ⟨_, hs, rfl, e, s5, _⟩
   exact ⟨by rw [zA]; have := congrArg List.length e; simp at this; omega, SqL.of (s5 _ _ kL)⟩
  ·rintro i v τ acc H5 C hv ⟨⟨t0, t1, t2, t3, rfl⟩, hs, rfl, e, s5, kh, hnd⟩ hC
   obtain ⟨l1, hl1, rfl⟩ := xO hv
   refine ⟨l1.1, _, rfl, SqT.of (s5 _ _ (rw3 l1 (zD hl1))), rfl, _, _, rfl, _, _, rfl, _, _, rfl, _, _, rfl, rfl, fun p hp => ⟨_, rfl, _, rfl, yn, [(Sum.inl (l1.2.s : Int), V.int l1.2.a)], rfl, by show 1 <= 15; decide, ?_⟩⟩
   have s6 := same_twice (o1 := HO.dK []) (o2 := HO.dK (mergeK [] [(Sum.inl (l1.2.s : Int), V.int l1.2.a)])) hp
   refine hC _ _ _ ⟨⟨_, _, _, _, rfl⟩, hs ++ [(p, [((l1.2.s : Int), l1.2.a)])], by rw [zL]; rfl, ?_, s5.trans s6, fun h hh => ?_, ?_⟩
   ·rw [zL, e, xR hl1, zL]; rfl
   ·rcases zZ.mp hh with hh | hh
    ·exact ⟨(kh h hh).1, s6 _ _ (kh h hh).2⟩
    ·cases zM.mp hh
     exact ⟨s5.free hp, by rw [yn]; rfl⟩
   ·rw [zL]
    refine List.nodup_append.mpr ⟨hnd, by simp, fun c hc d hd => ?_⟩
    obtain ⟨h, hh, rfl⟩ := zQ.mp hc
    cases zM.mp hd
    exact yr (kh h hh).2 hp
  ·rintro τ acc H5 ⟨⟨t0, t1, t2, t3, rfl⟩, hs, rfl, e, s5, kh, hnd⟩ lH hH
   rw [zA, z4] at e
   have s6 := yt (o := HO.lst (hs.map fun h => V.ref h.1)) hH
   have s36 := s5.trans s6
   have kH : upd H5 lH (HO.lst (hs.map fun h => V.ref h.1)) lH = some (.lst (hs.map fun h => V.ref h.1)) := yn
   replace kh : ∀ h ∈ hs, H3 h.1 = none /\ upd H5 lH (HO.lst (hs.map fun h => V.ref h.1)) h.1 = some (.dK (kvV h.2)) := fun h hh => ⟨(kh h hh).1, s6 _ _ (kh h hh).2⟩
   have n3H : H3 lH = none := s5.free hH
   have fh : ∀ h ∈ hs, H3 h.1 = none := fun h hh => (kh h hh).1
   generalize upd H5 lH (HO.lst (hs.map fun h => V.ref h.1)) = H6 at s6 s36 kH kh ⊢
   have i6 := s36 _ _ i3
   refine ⟨_, rfl, x, _, dx, _, rfl, i6, T.L_Trip, T.n_Trip_holders, by show 2 < 1000; decide, ?_⟩
   have nH : lH ≠ x := (yr i3 n3H).symm
   have nLH : lH ≠ lL := (yr kL n3H).symm
   have nh : ∀ h ∈ hs, h.1 ≠ x := fun h hh => (yr i3 (kh h hh).1).symm
   replace kL := s36 _ _ kL
   have bs7 : But x H6 (upd H6 x (.ins a.c_Trip dx (putF "holders" (.ref lH) [("book", .ref b), ("letters", .ref lL)]))) := But.set
   have i7 : upd H6 x (.ins a.c_Trip dx (putF "holders" (.ref lH) [("book", .ref b), ("letters", .ref lL)])) x = some (.ins a.c_Trip dx [("book", .ref b), ("letters", .ref lL), ("holders", .ref lH)]) := yn
   generalize upd H6 x (.ins a.c_Trip dx (putF "holders" (.ref lH) [("book", .ref b), ("letters", .ref lL)])) = H7 at bs7 i7 ⊢
   have b7 : But x H H7 := (b3.trans (Same.but s36)).trans bs7
   replace kL := bs7 _ _ nL kL
   replace kH := bs7 _ _ nH kH
   replace kh : ∀ h ∈ hs, H7 h.1 = some (.dK (kvV h.2)) := fun h hh => bs7 _ _ (nh h hh) (kh h hh).2
   refine ⟨_, rfl, x, _, dx, _, _, rfl, i7, T.L_Trip, T.n_Trip_letters, rfl, lL, rfl, ⟨_, SqL.of kL⟩, ?_⟩
   refine comp_list (K := K) (a := lL) (xs := ls.map fun l => V.ref l.1) (fun i τ acc H8 => (∃ t0, τ = [t0]) /\ acc = List.replicate i V.non /\ H8 = H7) ⟨⟨_, rfl⟩, rfl, rfl⟩ (by rw [zA]; omega) ?_ ?_ ?_
   ·rintro i τ acc H8 ⟨_, rfl, rfl⟩
    exact ⟨by simp, SqL.of kL⟩
   ·rintro i v τ acc H8 C hv ⟨⟨t0, rfl⟩, rfl, rfl⟩ hC
    exact hC _ _ _ ⟨⟨_, rfl⟩, by rw [List.replicate_succ'], rfl⟩
   ·rintro τ acc H8 ⟨⟨t0, rfl⟩, rfl, rfl⟩ lA hA
    rw [zA] at *
    have s9 := yt (o := HO.lst (List.replicate ls.length V.non)) hA
    have kA : upd H8 lA (HO.lst (List.replicate ls.length V.non)) lA = some (.lst (List.replicate ls.length V.non)) := yn
    have nA : lA ≠ x := (yr i7 hA).symm
    have nAL : lA ≠ lL := (yr kL hA).symm
    have nAH : lA ≠ lH := (yr kH hA).symm
    have nAh : ∀ h ∈ hs, h.1 ≠ lA := fun h hh => yr (kh h hh) hA
    generalize upd H8 lA (HO.lst (List.replicate ls.length V.non)) = H9 at s9 kA ⊢
    refine ⟨_, rfl, x, _, dx, _, rfl, s9 _ _ i7, T.L_Trip, T.n_Trip_arrivals, by show 3 < 1000; decide, ?_⟩
    have bsA : But x H9 (upd H9 x (.ins a.c_Trip dx (putF "arrivals" (.ref lA) [("book", .ref b), ("letters", .ref lL), ("holders", .ref lH)]))) := But.set
    have iA : upd H9 x (.ins a.c_Trip dx (putF "arrivals" (.ref lA) [("book", .ref b), ("letters", .ref lL), ("holders", .ref lH)])) x = some (.ins a.c_Trip dx [("book", .ref b), ("letters", .ref lL), ("holders", .ref lH), ("arrivals", .ref lA)]) := yn
    generalize upd H9 x (.ins a.c_Trip dx (putF "arrivals" (.ref lA) [("book", .ref b), ("letters", .ref lL), ("holders", .ref lH)])) = HA at bsA iA ⊢
    have bA : But x H HA := (b7.trans (Same.but s9)).trans bsA
    replace kL := bsA _ _ nL (s9 _ _ kL)
    replace kH := bsA _ _ nH (s9 _ _ kH)
    replace kh : ∀ h ∈ hs, HA h.1 = some (.dK (kvV h.2)) := fun h hh => bsA _ _ (nh h hh) (s9 _ _ (kh h hh))
    replace kA := bsA _ _ nA kA
    have hbA := hb.tups (tu _ bA)
    refine ⟨_, rfl, b, _, _, _, rfl, rfl, SqT.of hbA.book, rfl, tm, rfl, ⟨_, SqT.of hbA.meets⟩, ?_⟩
    refine comp_tup (K := K) (a := tm) (xs := ps.map fun a => V.ref a.1) (fun i τ acc H8 => (∃ t0, τ = [t0]) /\ acc = List.replicate i (V.int 0) /\ H8 = HA) ⟨⟨_, rfl⟩, rfl, rfl⟩ (by rw [zA]; omega) ?_ ?_ ?_
    ·rintro i τ acc H8 ⟨_, rfl, rfl⟩
     exact ⟨by simp, SqT.of hbA.meets⟩
    ·rintro i v τ acc H8 C hv ⟨⟨t0, rfl⟩, rfl, rfl⟩ hC
     exact hC _ _ _ ⟨⟨_, rfl⟩, by rw [List.replicate_succ'], rfl⟩
    ·rintro τ acc H8 ⟨⟨t0, rfl⟩, rfl, rfl⟩ lP hP
     rw [zA] at *
     have sB := yt (o := HO.lst (List.replicate ps.length (V.int 0))) hP
     have kP : upd H8 lP (HO.lst (List.replicate ps.length (V.int 0))) lP = some (.lst (List.replicate ps.length (V.int 0))) := yn
     have nP : lP ≠ x := (yr iA hP).symm
     have nPA : lP ≠ lA := (yr kA hP).symm
     have nLP := yr kL hP
     have nHP := yr kH hP
     generalize upd H8 lP (HO.lst (List.replicate ps.length (V.int 0))) = HB at sB kP ⊢
     refine ⟨_, rfl, x, _, dx, _, rfl, sB _ _ iA, T.L_Trip, T.n_Trip_passed, by show 4 < 1000; decide, ?_⟩
     have bsC : But x HB (upd HB x (.ins a.c_Trip dx (putF "passed" (.ref lP) [("book", .ref b), ("letters", .ref lL), ("holders", .ref lH), ("arrivals", .ref lA)]))) := But.set
     have iC : upd HB x (.ins a.c_Trip dx (putF "passed" (.ref lP) [("book", .ref b), ("letters", .ref lL), ("holders", .ref lH), ("arrivals", .ref lA)])) x = some (.ins a.c_Trip dx [("book", .ref b), ("letters", .ref lL), ("holders", .ref lH), ("arrivals", .ref lA), ("passed", .ref lP)]) := yn
     generalize upd HB x (.ins a.c_Trip dx (putF "passed" (.ref lP) [("book", .ref b), ("letters", .ref lL), ("holders", .ref lH), ("arrivals", .ref lA)])) = HC at bsC iC ⊢
     refine ⟨_, rfl, x, _, dx, _, rfl, iC, T.L_Trip, T.n_Trip_reached, by show 5 < 1000; decide, ?_⟩
     have bsD : But x HC (upd HC x (.ins a.c_Trip dx (putF "reached" (.int 0) [("book", .ref b), ("letters", .ref lL), ("holders", .ref lH), ("arrivals", .ref lA), ("passed", .ref lP)]))) := But.set
     have iD : upd HC x (.ins a.c_Trip dx (putF "reached" (.int 0) [("book", .ref b), ("letters", .ref lL), ("holders", .ref lH), ("arrivals", .ref lA), ("passed", .ref lP)])) x = some (.ins a.c_Trip dx [("book", .ref b), ("letters", .ref lL), ("holders", .ref lH), ("arrivals", .ref lA), ("passed", .ref lP), ("reached", .int 0)]) := yn
     generalize upd HC x (.ins a.c_Trip dx (putF "reached" (.int 0) [("book", .ref b), ("letters", .ref lL), ("holders", .ref lH), ("arrivals", .ref lA), ("passed", .ref lP)])) = HD at bsD iD ⊢
     have bAD : But x H8 HD := ((Same.but sB).trans bsC).trans bsD
     replace kP := (bsC.trans bsD) _ _ nP kP
     have kAD := bAD _ _ nA kA
     refine ⟨zb _, fun lD hD => ?_⟩
     have sE := yt (o := HO.lst []) hD
     have kD : upd HD lD (HO.lst []) lD = some (.lst []) := yn
     have nD : lD ≠ x := (yr iD hD).symm
     have nDA : lD ≠ lA := (yr kAD hD).symm
     have nLD := yr (bAD _ _ nL kL) hD
     have nHD := yr (bAD _ _ nH kH) hD
     have nPD := yr kP hD
     generalize upd HD lD (HO.lst []) = HE at sE kD ⊢
     refine ⟨_, rfl, x, _, dx, _, rfl, sE _ _ iD, T.L_Trip, T.n_Trip_deeds, by show 6 < 1000; decide, ?_⟩
     have bsF : But x HE (upd HE x (.ins a.c_Trip dx (putF "deeds" (.ref lD) [("book", .ref b), ("letters", .ref lL), ("holders", .ref lH), ("arrivals", .ref lA), ("passed", .ref lP), ("reached", .int 0)]))) := But.set
     have iF : upd HE x (.ins a.c_Trip dx (putF "deeds" (.ref lD) [("book", .ref b), ("letters", .ref lL), ("holders", .ref lH), ("arrivals", .ref lA), ("passed", .ref lP), ("reached", .int 0)])) x = some (.ins a.c_Trip dx [("book", .ref b), ("letters", .ref lL), ("holders", .ref lH), ("arrivals", .ref lA), ("passed", .ref lP), ("reached", .int 0), ("deeds", .ref lD)]) := yn
     generalize upd HE x (.ins a.c_Trip dx (putF "deeds" (.ref lD) [("book", .ref b), ("letters", .ref lL), ("holders", .ref lH), ("arrivals", .ref lA), ("passed", .ref lP), ("reached", .int 0)])) = HF at bsF iF ⊢
     have bEF : But x HD HF := (Same.but sE).trans bsF
     have bAF : But x H8 HF := bAD.trans bEF
     have bF : But x H HF := bA.trans bAF
     have lh : hs.length = ls.length := by have := congrArg List.length e; simpa using this
     have tF : TripAt a.c_Trip HF x b dx lL lH lA lP lD ls hs (List.replicate ls.length none) (List.replicate ps.length 0) 0 [] :=
      ⟨iF, bAF _ _ nL kL, fun l hl => tu _ bF _ _ (hrw l hl), bAF _ _ nH kH, fun h hh => bAF _ _ (nh h hh) (kh h hh), by rw [bAF _ _ nA kA, List.map_replicate]; rfl, by rw [bEF _ _ nP kP, List.map_replicate], bsF _ _ nD kD⟩
     have keepA : ∀ H', But lA HF H' -> ∀ os', H' lA = some (.lst (os'.map oV)) -> TripAt a.c_Trip H' x b dx lL lH lA lP lD ls hs os' (List.replicate ps.length 0) 0 [] := fun H' z os' ea =>
      ⟨z _ _ nA.symm tF.ins, z _ _ nAL.symm tF.lts, fun l hl => z _ _ (xU (tF.rows l hl) tF.arr (by intro z; cases z)) (tF.rows l hl), z _ _ nAH.symm tF.hol, fun h hh => z _ _ (nAh h hh) (tF.hols h hh), ea, z _ _ nPA tF.pas, z _ _ nDA tF.dee⟩
     refine ⟨_, rfl, x, _, dx, _, _, rfl, iF, T.L_Trip, T.n_Trip_letters, rfl, lL, rfl, ⟨_, SqL.of tF.lts⟩, ?_⟩
     refine for_enumL (K := K) (a := lL) (xs := ls.map fun l => V.ref l.1) (fun i σ HG => (∃ v3 v4 v5 v6 v7, σ = [some (.ref x), some (.ref b), some (.ref l0), v3, v4, v5, v6, v7]) /\ But lA HF HG /\ HG lA = some (.lst ((osTo ls i).map oV))) ⟨⟨_, _, _, _, _, rfl⟩, But.refl _ _, by rw [tF.arr, osTo_0]⟩ ?_ ?_ ?_
     ·rintro i σ HG _ ⟨_, bG, kG⟩
      exact SqL.of (keepA _ bG _ kG).lts
     ·rintro i v q0 σ HG hv hq ⟨⟨v3, v4, v5, v6, v7, rfl⟩, bG, kG⟩
      obtain ⟨l1, hl1, rfl⟩ := xO hv
      have hi : i < ls.length := (zB.mp hl1).1
      have s1 := yt (o := HO.tup [V.int (i : Int), V.ref l1.1]) hq
      have kq : upd HG q0 (HO.tup [V.int (i : Int), V.ref l1.1]) q0 = some (.tup [V.int (i : Int), V.ref l1.1]) := yn
      generalize upd HG q0 (HO.tup [V.int (i : Int), V.ref l1.1]) = HI at s1 kq ⊢
      have tI := (keepA _ bG _ kG).same s1
      refine ⟨q0, _, rfl, SqT.of kq, rfl, _, _, rfl, _, _, rfl, l1.1, _, rfl, SqT.of (tI.rows l1 (zD hl1)), rfl, _, _, rfl, _, _, rfl, _, _, rfl, _, _, rfl, rfl, rfl, ?_⟩
      refine ⟨_, rfl, x, dx, _, rfl, tI.ins, rfl, _, rfl, _, rfl, _, rfl, x, b, dx, lL, lH, lA, lP, lD, ls, hs, _, _, _, _, i, _, _, l1, rfl, tI, hl1, by rw [osTo_len (by omega)]; exact hi, fun HJ bJ kJ => ?_⟩
      exact ⟨⟨_, _, _, _, _, rfl⟩, (bG.trans (Same.but s1)).trans bJ, by rw [kJ, osTo_step hl1]⟩
     ·rintro σ HG ⟨⟨v3, v4, v5, v6, v7, rfl⟩, bG, kG⟩
      rw [zA, osTo_all] at kG
      have n0A : H lA = none := by
       cases z : H lA with
       | none => rfl
       | some u => have := b7 _ _ nA z; rw [hA] at this; cases this
      refine q ⟨x, b, dx, lL, lH, lA, lP, lD, ls, hs, ls.map fun l => begA l.2, List.replicate ps.length 0, 0, []⟩ HG (fun c u n z => bG c u (yr z n0A) (bF c u n z)) ⟨keepA _ bG _ kG, (hb.tups (tu _ bF)).tups (fun c xs z => bG c _ (xU z tF.arr (by intro z; cases z)) z), gd, rm, lh, by rw [zA], by rw [List.length_replicate], n41, fun h hh => ?_, zb _, ⟨nAL.symm, nLP, nLD, nAH.symm, nHP, nHD, nPA.symm, nDA.symm, nPD⟩, hnd⟩ ⟨rfl, rfl, rfl, e, rfl, rfl, rfl, rfl, fun c hc => ?_⟩
      ·have : h.2 ∈ hs.map (·.2) := zQ.mpr ⟨h, hh, rfl⟩
       rw [e] at this
       obtain ⟨l, _, el⟩ := zQ.mp this
       rw [<- el]; exact zG 1
      ·rcases hc with (rfl | rfl | rfl | rfl | hc) | rfl | rfl
       ·exact .inl rfl
       ·exact .inr n0A
       ·exact .inr (bA.free nP hP)
       ·exact .inr ((bA.trans bAD).free nD hD)
       ·obtain ⟨h, hh, rfl⟩ := zQ.mp hc
        exact .inr (b3.free (nh h hh) (fh h hh))
       ·exact .inr (b1.free nL hL)
       ·exact .inr (b3.free nH n3H)
theorem sc_Trip_having : FnScope ["self", "letter"] ["self", "letter"] (defScope s_Trip_having) := ⟨rfl, rfl, rfl, by decide +kernel, rfl, by decide +kernel, by decide +kernel⟩
theorem ok_Trip_having (T : Tx K mg a) : FnOk P w K mg base CX0 1 a.a_Trip_having a.d_Trip_having ["self", "letter"] (spHaving a.c_Trip) := by
 refine T.F_Trip_having.ok sc_Trip_having (fun vs H Q E h => ?_) (fun cdv A outer s H vs Q E hr h => ?_)
 ·obtain ⟨_, _, _, _, _, _, _, _, _, _, _, _, _, _, _, _, rfl, _⟩ := h; rfl
 ·have nd := sc_Trip_having.nd
  have hu := hr.units
  obtain ⟨x, b, dx, lL, lH, lA, lP, lD, ls, hs, os, ns, r, ds, n, h0, rfl, t, hn, h64, q⟩ := h
  refine ⟨_, (yw (xK (xJ (yz (call_sortItems rfl) (by rfl) T.b_sorted PyProof.Rows.boot_sorted (yl (yo (pe_bm0 PySem.F.plainAttrs_dict PySem.F.slot_dict_items PySem.F.type_dict_items mt_items (xD (xG rfl) (xQ (pv 0) rfl) (pv 1) (fun _ _ => rfl))) yu rfl)))))), ?_⟩
  have line := line9
  have hh := t.hols h0 (zD hn)
  have at1 : atI (hs.map fun h => V.ref h.1) (n : Int) = some (V.ref h0.1) := xM (by rw [zC, hn]; rfl)
  refine ⟨_, rfl, x, _, dx, _, _, rfl, t.ins, T.L_Trip, T.n_Trip_holders, rfl, _, rfl, lH, _, _, _, rfl, rfl, SqL.of t.hol, at1, ?_⟩
  refine ⟨.inr (.inr (.inl ⟨rfl, .inl ⟨_, hh⟩⟩)), h0.1, _, rfl, rfl, hh, fun v hv => ?_⟩
  have sv := yt (o := viewO v h0.1) hv
  exact ⟨v, h0.1, h0.2, rfl, yn, sv _ _ hh, h64, fun l qs H' sm nl nq kl kr pm pw => q l qs H' (sv.trans sm) (sv.free nl) (fun a ha => sv.free (nq a ha)) kl kr pm pw⟩
theorem sc_Trip_bag : FnScope ["self", "walker", "kept", "letter", "holders"] ["self", "walker"] (defScope s_Trip_bag) := ⟨rfl, rfl, rfl, by decide +kernel, rfl, by decide +kernel, by decide +kernel⟩
theorem ok_Trip_bag (T : Tx K mg a) : FnOk P w K mg base CX0 2 a.a_Trip_bag a.d_Trip_bag ["self", "walker"] (spBag a.c_Trip) := by
 have G_Trip_takes_room := @ok_Trip_takes_room P w _ _ base _ T
 refine T.F_Trip_bag.ok sc_Trip_bag (fun vs H Q E h => ?_) (fun cdv A outer s H vs Q E hr h => ?_)
 ·obtain ⟨_, _, _, _, _, _, _, _, _, _, _, _, _, _, _, rfl, _⟩ := h; rfl
 ·have nd := sc_Trip_bag.nd
  have hu := hr.units
  obtain ⟨x, b, dx, lL, lH, lA, lP, lD, ls, hs, os, ns, r, ds, w0, rfl, t, n41, lh, q⟩ := h
  refine ⟨_, (yw (xC (xB (i := 2) nd rfl (by first | exact Or.inl rfl | exact Or.inr rfl) (xS wB)) (xC (ps_for PassesOwn.never rfl (pi_enumL rfl rfl T.b_enumerate (yl (yo (xQ (pv 0) rfl) yu rfl))) (xw (n := 2) rfl rfl (xF (y8 (i := 3) nd rfl (by first | exact Or.inl rfl | exact Or.inr rfl)) (xF (y8 (i := 4) nd rfl (by first | exact Or.inl rfl | exact Or.inr rfl)) xm))) (yw (xK (xL (PW.pt (pw_and (xA (op_inD hu) (pv 1) (pv 4) rfl) (pw_and1 (pt_val (xa (pv 0) T.L_Trip T.M_Trip_takes_room G_Trip_takes_room (hr.mono (by decide)) T.i_Trip_takes_room .nil pass0 (yl (yo (pv 3) (yo (pv 1) yu rfl) rfl))))))) (yw (xK (xX (pe_bm zX zl zm mt_append (pv 2) (yl (yo (pv 3) yu rfl)))))) xE)))) (xK (xJ (pv 2)))))), ?_⟩
  have line := line9
  refine ⟨zb _, fun lk hlk => ?_⟩
  have s1 := yt (o := HO.lst []) hlk
  refine ⟨_, rfl, x, _, dx, _, _, rfl, s1 _ _ t.ins, T.L_Trip, T.n_Trip_holders, rfl, lH, rfl, ⟨_, SqL.of (s1 _ _ t.hol)⟩, ?_⟩
  refine for_enumL (K := K) (a := lH) (xs := hs.map fun h => V.ref h.1) (fun i σ H3 => (∃ v3 v4, σ = [some (.ref x), some (.int w0), some (.ref lk), v3, v4]) /\ Same H H3 /\ H3 lk = some (.lst ((bagTo w0 ls hs i).map V.int))) ⟨⟨_, _, rfl⟩, s1, yn⟩ ?_ ?_ ?_
  ·rintro i σ H3 _ ⟨_, s3, _⟩
   exact SqL.of (s3 _ _ t.hol)
  ·rintro i v q0 σ H3 hv hq ⟨⟨v3, v4, rfl⟩, s3, kl⟩
   obtain ⟨h0, hh, rfl⟩ := xO hv
   obtain ⟨l1, hl1⟩ : ∃ l, ls[i]? = some l := ⟨_, zE (by have := (zB.mp hh).1; omega)⟩
   have s4 := yt (o := HO.tup [V.int (i : Int), V.ref h0.1]) hq
   have k4 := s4 _ _ kl
   have kq : upd H3 q0 (HO.tup [V.int (i : Int), V.ref h0.1]) q0 = some (.tup [V.int (i : Int), V.ref h0.1]) := yn
   generalize upd H3 q0 (HO.tup [V.int (i : Int), V.ref h0.1]) = H4 at s4 k4 kq ⊢
   have sH4 := s3.trans s4
   have t4 := t.same sH4
   refine ⟨q0, _, rfl, SqT.of kq, rfl, _, _, rfl, _, _, rfl, rfl, ?_⟩
   refine ⟨_, rfl, _, rfl, h0.1, _, rfl, DGet.k (k := Sum.inl w0) (t4.hols h0 (zD hh)), _, rfl, ?_⟩
   rw [valV_any]
   have nn : bagTo w0 ls hs (i + 1) = bagTo w0 ls hs i ++ (if inBag w0 ls[i]? hs[i]? then [(i : Int)] else []) := rfl
   rw [hl1, hh] at nn
   cases c : (h0.2.any fun p => decide (p.1 = w0)) with
   | false => exact iteB0 rfl ⟨⟨_, _, rfl⟩, sH4, by rw [nn, if_neg (by simp only [inBag, c, yE]; exact zJ), zy]; exact k4⟩
   | true =>
    refine iteB1 rfl ⟨_, rfl, x, dx, _, rfl, t4.ins, rfl, _, rfl, _, rfl, x, b, dx, lL, lH, lA, lP, lD, ls, hs, os, ns, r, ds, i, w0, l1, rfl, t4, hl1, fun H5 s5 => ⟨_, rfl, ?_⟩⟩
    have k5 := s5 _ _ k4
    cases c2 : (!(decide (w0 = l1.2.s) || decide (w0 = l1.2.w))) with
    | false => exact iteB0 rfl ⟨⟨_, _, rfl⟩, sH4.trans s5, by rw [nn, if_neg (by simp only [inBag, c, c2, Bool.and_false]; exact zJ), zy]; exact k5⟩
    | true =>
     have li := bagTo_len w0 ls hs i
     have hi : i < hs.length := (zB.mp hh).1
     refine iteB1 rfl ⟨_, rfl, .inl ⟨rfl, _, SqL.of k5⟩, _, rfl, lk, _, _, rfl, rfl, k5, by rw [zA]; omega, ⟨_, _, rfl⟩, same_put (sH4.trans s5) hlk, ?_⟩
     rw [yn, nn, if_pos (by simp only [inBag, c, c2, Bool.and_self]), zL]
     rfl
  ·rintro σ H3 ⟨⟨v3, v4, rfl⟩, s3, kl⟩
   rw [zA] at kl
   exact ⟨_, rfl, q lk H3 s3 hlk kl⟩
theorem sc_Trip_come : FnScope ["self", "letter"] ["self", "letter"] (defScope s_Trip_come) := ⟨rfl, rfl, rfl, by decide +kernel, rfl, by decide +kernel, by decide +kernel⟩
theorem ok_Trip_come (T : Tx K mg a) : FnOk P w K mg base CX0 1 a.a_Trip_come a.d_Trip_come ["self", "letter"] (spCome a.c_Trip) := by
 refine T.F_Trip_come.ok sc_Trip_come (fun vs H Q E h => ?_) (fun cdv A outer s H vs Q E hr h => ?_)
 ·obtain ⟨_, _, _, _, _, _, _, _, _, _, _, _, _, _, _, _, rfl, _⟩ := h; rfl
 ·have nd := sc_Trip_come.nd
  have hu := hr.units
  obtain ⟨x, b, dx, lL, lH, lA, lP, lD, ls, hs, os, ns, r, ds, n, o, rfl, t, hn, q⟩ := h
  refine ⟨_, (yw (xK (xJ (xD (xG rfl) (xQ (pv 0) rfl) (pv 1) (fun _ _ => rfl))))), ?_⟩
  have at1 : atI (os.map oV) (n : Int) = some (oV o) := xM (by rw [zC, hn]; rfl)
  exact ⟨_, rfl, x, _, dx, _, _, rfl, t.ins, T.L_Trip, T.n_Trip_arrivals, rfl, _, rfl, lA, _, _, _, rfl, rfl, SqL.of t.arr, at1, q⟩
theorem sc_Trip_done : FnScope ["self"] ["self"] (defScope s_Trip_done) := ⟨rfl, rfl, rfl, by decide +kernel, rfl, by decide +kernel, by decide +kernel⟩
theorem ok_Trip_done (T : Tx K mg a) : FnOk P w K mg base CX0 1 a.a_Trip_done a.d_Trip_done ["self"] (spDone a.c_Trip) := by
 refine T.F_Trip_done.ok sc_Trip_done (fun vs H Q E h => ?_) (fun cdv A outer s H vs Q E hr h => ?_)
 ·obtain ⟨_, _, _, _, _, _, _, _, _, _, _, _, _, _, rfl, _⟩ := h; rfl
 ·have nd := sc_Trip_done.nd
  have hu := hr.units
  obtain ⟨x, b, dx, lL, lH, lA, lP, lD, ls, hs, os, ns, r, ds, rfl, t, q⟩ := h
  refine ⟨_, (yw (xK (xJ (pe_callTy (call_list_of' rfl) (by rfl) T.b_list PyProof.Rows.boot_list (yl (yo (xQ (pv 0) rfl) yu rfl)))))), ?_⟩
  exact ⟨_, rfl, x, _, dx, _, _, rfl, t.ins, T.L_Trip, T.n_Trip_deeds, rfl, lD, _, rfl, .inl (SqL.of t.dee), q⟩
theorem sc_Trip_need_letter : FnScope ["self", "letter"] ["self", "letter"] (defScope x8) := ⟨rfl, rfl, rfl, by decide +kernel, rfl, by decide +kernel, by decide +kernel⟩
theorem ok_Trip_need_letter (T : Tx K mg a) : FnOk P w K mg base (CXE P w) 3 a.a_Trip_need_letter a.d_Trip_need_letter ["self", "letter"] (spNeedL a.c_Trip ⟨a.c_NoDeed, a.c_NoMeeting, a.c_NoLetter, a.c_NoWalker, a.c_NotThere, a.c_HasIt, a.c_NoPass, a.c_NoRoom⟩) := by
 have G_is_within := @ok_is_within P w _ _ base _ T
 refine T.F_Trip_need_letter.okE sc_Trip_need_letter (fun vs H Q E h => ?_) (fun cdv A outer s H vs Q E hr h => ?_)
 ·obtain ⟨_, _, _, _, _, _, _, rfl, _⟩ := h; rfl
 ·have nd := sc_Trip_need_letter.nd
  have hu := hr.units
  obtain ⟨t, l, rooms, tr, tm, ps, n0, rfl, k, q1, q2⟩ := h
  refine ⟨_, (yw (xK (xL (pt_not (pt_val (yx G_is_within (hr.mono (by decide)) rfl T.m_is_within T.k_is_within T.i_is_within .nil pass0 (yl (yo (pv 1) (yo yq (yo (xI op_sub (yz (y6 rfl) (by rfl) T.b_len PySem.boot_len (yl (yo (xQ (pv 0) rfl) yu rfl))) yq) yu rfl) rfl) rfl))))) (yw (xK (xv rfl rfl rfl rfl rfl T.m_NoLetter T.x_NoLetter))) xE))), ?_⟩
  refine ⟨_, rfl, _, rfl, t.x, _, t.dx, _, _, rfl, k.at_.ins, T.L_Trip, T.n_Trip_letters, rfl, t.lL, _, rfl, .inl (SqL.of k.at_.lts), _, _, rfl, rfl, .int l, "int", 0, _, rfl, rfl, _, rfl, ?_⟩
  rw [zA]
  by_cases c : 0 <= l /\ l < t.ls.length
  ·exact iteB0 (by simp [inB]; omega) (q1 c)
  ·exact iteB1 (by simp [inB]; omega) (q2 c)
theorem sc_Trip_need_drop : FnScope ["self", "letter", "walker"] ["self", "letter", "walker"] (defScope s_Trip_need_drop) := ⟨rfl, rfl, rfl, by decide +kernel, rfl, by decide +kernel, by decide +kernel⟩
theorem ok_Trip_need_drop (T : Tx K mg a) : FnOk P w K mg base (CXE P w) 4 a.a_Trip_need_drop a.d_Trip_need_drop ["self", "letter", "walker"] (spNeedD a.c_Trip ⟨a.c_NoDeed, a.c_NoMeeting, a.c_NoLetter, a.c_NoWalker, a.c_NotThere, a.c_HasIt, a.c_NoPass, a.c_NoRoom⟩) := by
 have G_is_walker := @ok_is_walker P w _ _ base _ T
 have G_Trip_need_letter := @ok_Trip_need_letter P w _ _ base _ T
 refine T.F_Trip_need_drop.okE sc_Trip_need_drop (fun vs H Q E h => ?_) (fun cdv A outer s H vs Q E hr h => ?_)
 ·obtain ⟨_, _, _, _, _, _, _, _, rfl, _⟩ := h; rfl
 ·have nd := sc_Trip_need_drop.nd
  have hu := hr.units
  obtain ⟨t, l, w0, rooms, tr, tm, ps, n0, rfl, k, q1, q2⟩ := h
  refine ⟨_, (yw (xC (xX (xa (E := E) (pv 0) T.L_Trip T.M_Trip_need_letter G_Trip_need_letter (hr.mono (by decide)) T.i_Trip_need_letter .nil (pass_on rfl rfl rfl (fun _ _ z => z)) (yl (yo (pv 1) yu rfl)))) (xC (xL (pt_not (pt_val (yx G_is_walker (hr.mono (by decide)) rfl T.m_is_walker T.k_is_walker T.i_is_walker .nil pass0 (yl (yo (xQ (pv 0) rfl) (yo (pv 2) yu rfl) rfl))))) (yw (xK (xv rfl rfl rfl rfl rfl T.m_NoWalker T.x_NoWalker))) xE) (xK (xL (xA (op_notInD hu) (pv 2) (xD (xG rfl) (xQ (pv 0) rfl) (pv 1) (fun _ _ => rfl)) rfl) (yw (xK (xv rfl rfl rfl rfl rfl T.m_NotThere T.x_NotThere))) xE))))), ?_⟩
  have qE : ∀ n, codeD rooms t l w0 = n -> n ≠ 8 -> E (.ref (XC.of ⟨a.c_NoDeed, a.c_NoMeeting, a.c_NoLetter, a.c_NoWalker, a.c_NotThere, a.c_HasIt, a.c_NoPass, a.c_NoRoom⟩ n)) none H := fun n e ne => e ▸ q2 (e ▸ ne)
  refine ⟨_, rfl, t.x, t.dx, _, rfl, k.at_.ins, rfl, _, rfl, t, l, rooms, tr, tm, ps, n0, rfl, k, fun c => ?_, fun c => qE 2 (by unfold codeD; rw [if_neg c]) (by decide)⟩
  obtain ⟨l, rfl⟩ := zO c.1
  obtain ⟨h, hh, _, hd⟩ := k.kvAt (l := l) (by omega)
  refine ⟨_, rfl, t.x, _, t.dx, _, _, rfl, k.at_.ins, T.L_Trip, T.n_Trip_book, rfl, _, rfl, t.b, .int w0, "int", rooms, tr, tm, ps, rfl, k.bk, rfl, _, rfl, ?_⟩
  by_cases c2 : 0 <= w0 /\ w0 < rooms.length
  ·have at1 : atI (t.hs.map fun h => V.ref h.1) (l : Int) = some (V.ref h.1) := xM (by rw [zC, hh]; rfl)
   refine iteB0 (by simp [inB]; omega) ⟨_, rfl, _, rfl, t.x, _, t.dx, _, _, rfl, k.at_.ins, T.L_Trip, T.n_Trip_holders, rfl, _, rfl, t.lH, _, _, _, rfl, rfl, SqL.of k.at_.hol, at1, h.1, _, rfl, DGet.k (k := Sum.inl w0) hd, _, rfl, ?_⟩
   have ce : codeD rooms t (l : Int) w0 = if (kvget h.2 w0).isSome = true then 8 else 4 := by
    unfold codeD; rw [if_pos c, if_pos c2, zF, hh]
   rw [xx, zw]
   cases c3 : (kvget h.2 w0).isSome with
   | true => exact iteB0 rfl (q1 (by rw [ce, c3]; rfl))
   | false => exact iteB1 rfl (qE 4 (by rw [ce, c3]; rfl) (by decide))
  ·exact iteB1 (by simp [inB]; omega) (qE 3 (by unfold codeD; rw [if_pos c, if_neg c2]) (by decide))
theorem sc_Trip_need_passing : FnScope ["self", "meeting", "letter", "giver", "one", "two", "when", "many", "other"] ["self", "meeting", "letter", "giver"] (defScope xu) := ⟨rfl, rfl, rfl, by decide +kernel, rfl, by decide +kernel, by decide +kernel⟩
theorem ok_Trip_need_passing (T : Tx K mg a) : FnOk P w K mg base (CXE P w) 4 a.a_Trip_need_passing a.d_Trip_need_passing ["self", "meeting", "letter", "giver"] (spNeedP a.c_Trip ⟨a.c_NoDeed, a.c_NoMeeting, a.c_NoLetter, a.c_NoWalker, a.c_NotThere, a.c_HasIt, a.c_NoPass, a.c_NoRoom⟩) := by
 have G_is_below := @ok_is_below P w _ _ base _ T
 have G_is_meeting_number := @ok_is_meeting_number P w _ _ base _ T
 have G_other_at := @ok_other_at P w _ _ base _ T
 have G_Trip_takes_room := @ok_Trip_takes_room P w _ _ base _ T
 have G_Trip_bag := @ok_Trip_bag P w _ _ base _ T
 have G_Trip_need_letter := @ok_Trip_need_letter P w _ _ base _ T
 refine T.F_Trip_need_passing.okE sc_Trip_need_passing (fun vs H Q E h => ?_) (fun cdv A outer s H vs Q E hr h => ?_)
 ·obtain ⟨_, _, _, _, _, _, _, _, _, rfl, _⟩ := h; rfl
 ·have nd := sc_Trip_need_passing.nd
  have hu := hr.units
  obtain ⟨t, m, l, g, rooms, tr, tm, ps, n0, rfl, k, q1, q2⟩ := h
  refine ⟨_, (yw (xC (xL (PW.pt (pw_or (pt_not (pt_val (yx G_is_meeting_number (hr.mono (by decide)) rfl T.m_is_meeting_number T.k_is_meeting_number T.i_is_meeting_number .nil pass0 (yl (yo (xQ (pv 0) rfl) (yo (pv 1) yu rfl) rfl))))) (pw_or1 (xA op_lt (pv 1) (xQ (pv 0) rfl) (nomark _))))) (yw (xK (xv rfl rfl rfl rfl rfl T.m_NoMeeting T.x_NoMeeting))) xE) (xC (xX (xa (E := E) (pv 0) T.L_Trip T.M_Trip_need_letter G_Trip_need_letter (hr.mono (by decide)) T.i_Trip_need_letter .nil (pass_on rfl rfl rfl (fun _ _ z => z)) (yl (yo (pv 2) yu rfl)))) (xC (PS.nox (ps_asg (xD (xH rfl) (xD (xH rfl) (xQ (pv 0) rfl) yq (fun _ _ => rfl)) (pv 1) (fun _ _ => rfl)) (xw (n := 4) rfl rfl (xF (y8 (i := 4) nd rfl (by first | exact Or.inl rfl | exact Or.inr rfl)) (xF (y8 (i := 5) nd rfl (by first | exact Or.inl rfl | exact Or.inr rfl)) (xF (y8 (i := 6) nd rfl (by first | exact Or.inl rfl | exact Or.inr rfl)) (xF (y8 (i := 7) nd rfl (by first | exact Or.inl rfl | exact Or.inr rfl)) xm))))))) (xC (xL (xA op_notIn_seq (pv 3) (xq (yl (yo (pv 4) (yo (pv 5) yu rfl) rfl))) rfl) (yw (xK (xv rfl rfl rfl rfl rfl T.m_NoWalker T.x_NoWalker))) xE) (xC (xL (pt_not (pt_val (yx G_is_below (hr.mono (by decide)) rfl T.m_is_below T.k_is_below T.i_is_below .nil pass0 (yl (yo (pe_bm PySem.F.plainAttrs_dict PySem.F.slot_dict_get PySem.F.type_dict_get (mt_dget hu) (xD (xG rfl) (xQ (pv 0) rfl) (pv 2) (fun _ _ => rfl)) (yl (yo (pv 3) yu rfl))) (yo (pv 6) yu rfl) rfl))))) (yw (xK (xv rfl rfl rfl rfl rfl T.m_NotThere T.x_NotThere))) xE) (xC (PS.nox (xB (i := 8) nd rfl (by first | exact Or.inl rfl | exact Or.inr rfl) (yx G_other_at (hr.mono (by decide)) rfl T.m_other_at T.k_other_at T.i_other_at .nil pass0 (yl (yo (xQ (pv 0) rfl) (yo (pv 1) (yo (pv 3) yu rfl) rfl) rfl))))) (xC (xL (xA (op_inD hu) (pv 8) (xD (xG rfl) (xQ (pv 0) rfl) (pv 2) (fun _ _ => rfl)) rfl) (yw (xK (xv rfl rfl rfl rfl rfl T.m_HasIt T.x_HasIt))) xE) (xC (xL (xA op_ge (xD (xG rfl) (xQ (pv 0) rfl) (pv 1) (fun _ _ => rfl)) (pv 7) (nomark _)) (yw (xK (xv rfl rfl rfl rfl rfl T.m_NoPass T.x_NoPass))) xE) (xK (xL (PW.pt (pw_and (pt_val (xa (pv 0) T.L_Trip T.M_Trip_takes_room G_Trip_takes_room (hr.mono (by decide)) T.i_Trip_takes_room .nil pass0 (yl (yo (pv 2) (yo (pv 8) yu rfl) rfl)))) (pw_and1 (xA op_ge (yz (y6 rfl) (by rfl) T.b_len PySem.boot_len (yl (yo (xa (pv 0) T.L_Trip T.M_Trip_bag G_Trip_bag (hr.mono (by decide)) T.i_Trip_bag .nil pass0 (yl (yo (pv 8) yu rfl))) yu rfl))) (xD (xH rfl) (xD (xH rfl) (xQ (pv 0) rfl) yq (fun _ _ => rfl)) (pv 8) (fun _ _ => rfl)) (nomark _))))) (yw (xK (xv rfl rfl rfl rfl rfl T.m_NoRoom T.x_NoRoom))) xE))))))))))), ?_⟩
  have line := line9
  have qE : ∀ n, codeP rooms (ps.map (·.2)) t m l g = n -> n ≠ 8 -> ∀ H', Same H H' -> E (.ref (XC.of ⟨a.c_NoDeed, a.c_NoMeeting, a.c_NoLetter, a.c_NoWalker, a.c_NotThere, a.c_HasIt, a.c_NoPass, a.c_NoRoom⟩ n)) none H' := fun n e ne => e ▸ q2 (e ▸ ne)
  have lm : (ps.map (·.2)).length = ps.length := zA _
  refine ⟨_, rfl, t.x, _, t.dx, _, _, rfl, k.at_.ins, T.L_Trip, T.n_Trip_book, rfl, _, rfl, t.b, .int m, "int", rooms, tr, tm, ps, rfl, k.bk, rfl, _, rfl, ?_⟩
  by_cases c1 : 0 <= m /\ m < ps.length
  rotate_left
  ·exact iteB1 (by simp [inB]; omega) (iteB1 rfl (qE 1 (by unfold codeP; rw [lm, if_neg fun z => c1 ⟨z.1, z.2.1⟩]) (by decide) H (Same.refl _)))
  refine iteB0 (by simp [inB]; omega) ⟨_, rfl, _, rfl, t.x, _, t.dx, _, _, rfl, k.at_.ins, T.L_Trip, T.n_Trip_reached, rfl, _, _, rfl, rfl, _, rfl, iteD (fun c => qE 1 (by unfold codeP; rw [lm, if_neg fun z => by omega]) (by decide) H (Same.refl _)) fun c2 => ?_⟩
  refine ⟨_, rfl, t.x, t.dx, _, rfl, k.at_.ins, rfl, _, rfl, t, l, rooms, tr, tm, ps, n0, rfl, k, fun c3 => ?_, fun c3 => qE 2 (by unfold codeP; rw [lm, if_pos ⟨c1.1, c1.2, by omega⟩, if_neg c3]) (by decide) H (Same.refl _)⟩
  obtain ⟨m, rfl⟩ := zO c1.1
  obtain ⟨l, rfl⟩ := zO c3.1
  have hm : m < ps.length := by omega
  obtain ⟨h, hh, _, hd⟩ := k.kvAt (l := l) (by omega)
  obtain ⟨L, hL⟩ : ∃ L, t.ls[l]? = some L := ⟨_, zE (by omega)⟩
  obtain ⟨n, hn⟩ : ∃ n, t.ns[m]? = some n := ⟨_, zE (by have := k.ln; omega)⟩
  obtain ⟨M, hp⟩ : ∃ M, ps[m]? = some M := ⟨_, zE hm⟩
  have hM : (ps.map (·.2))[m]? = some M.2 := by rw [zC, hp]; rfl
  have ce := codeP_at (rooms := rooms) (ms := ps.map (·.2)) (g := g) (show t.r <= (m : Int) by omega) hM hL hh hn
  have hrow : H M.1 = some (.tup M.2.vs) := k.bk.rows M (zD hp)
  have atm : atI (ps.map fun a => V.ref a.1) (m : Int) = some (V.ref M.1) := xM (by rw [zC, hp]; rfl)
  have at1 : atI (t.hs.map fun h => V.ref h.1) (l : Int) = some (V.ref h.1) := xM (by rw [zC, hh]; rfl)
  have at2 : atI (t.ns.map V.int) (m : Int) = some (V.int n) := xM (by rw [zC, hn]; rfl)
  refine ⟨_, rfl, t.x, _, t.dx, _, _, rfl, k.at_.ins, T.L_Trip, T.n_Trip_book, rfl, t.b, _, _, _, rfl, rfl, SqT.of k.bk.book, rfl, _, rfl, tm, _, _, _, rfl, rfl, SqT.of k.bk.meets, atm, M.1, _, rfl, SqT.of hrow, rfl, _, _, rfl, _, _, rfl, _, _, rfl, _, _, rfl, rfl, ?_⟩
  refine ⟨_, rfl, _, rfl, _, rfl, by show 2 <= _; omega, fun t2 ht2 => ⟨t2, _, rfl, .inr (SqT.of yn), rfl, rfl, _, rfl, ?_⟩⟩
  have s1 := yt (o := HO.tup [V.int M.2.lo, V.int M.2.hi]) ht2
  generalize upd H t2 (HO.tup [V.int M.2.lo, V.int M.2.hi]) = H1 at s1 ⊢
  have k1 := k.same s1
  have hd1 := s1 _ _ hd
  have eV : inV (V.int g) [V.int M.2.lo, V.int M.2.hi] = decide (g = M.2.lo \/ g = M.2.hi) := by
   simp [inV, eqV_int, Bool.decide_or]
   congr 1 <;> exact decide_eq_decide.mpr ⟨Eq.symm, Eq.symm⟩
  by_cases c4 : g = M.2.lo \/ g = M.2.hi
  rotate_left
  ·exact iteB1 (by show (!inV (V.int g) [V.int M.2.lo, V.int M.2.hi]) = true; rw [eV, decide_eq_false c4]; rfl) (qE 3 (by rw [ce]; unfold codeP2; rw [if_neg c4]) (by decide) _ s1)
  refine iteB0 (by show (!inV (V.int g) [V.int M.2.lo, V.int M.2.hi]) = false; rw [eV, decide_eq_true c4]; rfl) ?_
  refine ⟨_, rfl, t.x, _, t.dx, _, _, rfl, k1.at_.ins, T.L_Trip, T.n_Trip_holders, rfl, _, rfl, t.lH, _, _, _, rfl, rfl, SqL.of k1.at_.hol, at1, .inr (.inr (.inl ⟨rfl, .inl ⟨_, hd1⟩⟩)), _, rfl, h.1, _, _, rfl, rfl, DGet.k (k := Sum.inl g) hd1, _, rfl, kvget h.2 g, M.2.t, by rw [xx]; cases kvget h.2 g <;> rfl, _, rfl, ?_⟩
  cases c5 : below (kvget h.2 g) M.2.t with
  | false => exact iteB1 rfl (qE 4 (by rw [ce]; unfold codeP2; rw [if_pos c4, if_neg (by rw [c5]; exact zJ)]) (by decide) _ s1)
  | true =>
  refine iteB0 rfl ⟨_, rfl, t.x, _, t.dx, _, _, rfl, k1.at_.ins, T.L_Trip, T.n_Trip_book, rfl, _, rfl, _, rfl, t.b, m, g, rooms, tr, tm, ps, M.2, rfl, k1.bk, hM, ?_⟩
  refine ⟨_, rfl, _, rfl, t.x, _, t.dx, _, _, rfl, k1.at_.ins, T.L_Trip, T.n_Trip_holders, rfl, _, rfl, t.lH, _, _, _, rfl, rfl, SqL.of k1.at_.hol, at1, h.1, _, rfl, DGet.k (k := Sum.inl (othI M.2 g)) hd1, _, rfl, ?_⟩
  rw [xx, zw]
  cases c6 : (kvget h.2 (othI M.2 g)).isSome with
  | true => exact iteB1 rfl (qE 5 (by rw [ce]; unfold codeP2; rw [if_pos c4, if_pos c5, if_pos c6]) (by decide) _ s1)
  | false =>
  have n6 : ¬ (kvget h.2 (othI M.2 g)).isSome = true := by rw [c6]; exact zJ
  refine iteB0 rfl ⟨_, rfl, t.x, _, t.dx, _, _, rfl, k1.at_.ins, T.L_Trip, T.n_Trip_passed, rfl, _, rfl, t.lP, _, _, _, rfl, rfl, SqL.of k1.at_.pas, at2, _, rfl, _, _, rfl, rfl, _, rfl, iteD (fun c7 => qE 6 (by rw [ce]; unfold codeP2; rw [if_pos c4, if_pos c5, if_neg n6, if_pos c7]) (by decide) _ s1) fun c7 => ?_⟩
  have c7' : ¬ M.2.m <= n := c7
  refine ⟨_, rfl, t.x, t.dx, _, rfl, k1.at_.ins, rfl, _, rfl, _, rfl, t.x, t.b, t.dx, t.lL, t.lH, t.lA, t.lP, t.lD, t.ls, t.hs, t.os, t.ns, t.r, t.ds, l, othI M.2 g, L, rfl, k1.at_, hL, fun H2 s2 => ⟨_, rfl, ?_⟩⟩
  have k2 := k1.same s2
  cases c8 : (!(decide (othI M.2 g = L.2.s) || decide (othI M.2 g = L.2.w))) with
  | false => exact iteB0 rfl (iteB0 rfl (q1 (by rw [ce]; unfold codeP2; rw [if_pos c4, if_pos c5, if_neg n6, if_neg c7', if_neg (by show ¬ (takB L.2 (othI M.2 g) && _) = true; unfold takB; rw [c8]; exact zJ)]) _ (s1.trans s2)))
  | true =>
  have oi := othI_in (g := g) k.gd hM
  obtain ⟨o, eo⟩ := zO oi.1
  obtain ⟨rr, hrr⟩ : ∃ rr, rooms[o]? = some rr := ⟨_, zE (by omega)⟩
  have at3 : atI (rooms.map V.int) (othI M.2 g) = some (V.int rr) := by rw [eo]; exact xM (by rw [zC, hrr]; rfl)
  refine iteB1 rfl ⟨_, rfl, t.x, t.dx, _, rfl, k2.at_.ins, rfl, _, rfl, t.x, t.b, t.dx, t.lL, t.lH, t.lA, t.lP, t.lD, t.ls, t.hs, t.os, t.ns, t.r, t.ds, othI M.2 g, rfl, k2.at_, by have := k.lh; have := k.few; omega, k.lh, fun lb H3 s3 fl hlb => ?_⟩
  have k3 := k2.same s3
  refine ⟨lb, _, rfl, .inl (SqL.of hlb), _, rfl, t.x, _, t.dx, _, _, rfl, k3.at_.ins, T.L_Trip, T.n_Trip_book, rfl, t.b, _, _, _, rfl, rfl, SqT.of k3.bk.book, rfl, _, rfl, tr, _, _, _, rfl, rfl, SqT.of k3.bk.rooms, at3, _, _, rfl, rfl, _, rfl, ?_⟩
  rw [zA]
  have e7 : (takB L.2 (othI M.2 g) && decide ((rooms[(othI M.2 g).toNat]?.getD 0) <= ((bagTo (othI M.2 g) t.ls t.hs t.hs.length).length : Int))) = decide (rr <= ((bagTo (othI M.2 g) t.ls t.hs t.hs.length).length : Int)) := by
   unfold takB
   rw [c8, eo, zF, hrr]; rfl
  refine iteD (fun c9 => qE 7 (by rw [ce]; unfold codeP2; rw [if_pos c4, if_pos c5, if_neg n6, if_neg c7', e7, if_pos (decide_eq_true c9)]) (by decide) _ ((s1.trans s2).trans s3)) fun c9 => ?_
  exact q1 (by rw [ce]; unfold codeP2; rw [if_pos c4, if_pos c5, if_neg n6, if_neg c7', e7, if_neg (by rw [decide_eq_false c9]; exact zJ)]) _ ((s1.trans s2).trans s3)
theorem sc_Trip_pass_on : FnScope ["self", "meeting", "letter", "giver", "other", "when"] ["self", "meeting", "letter", "giver"] (defScope s_Trip_pass_on) := ⟨rfl, rfl, rfl, by decide +kernel, rfl, by decide +kernel, by decide +kernel⟩
theorem ok_Trip_pass_on (T : Tx K mg a) : FnOk P w K mg base CX0 2 a.a_Trip_pass_on a.d_Trip_pass_on ["self", "meeting", "letter", "giver"] (spPassOn a.c_Trip) := by
 have G_other_at := @ok_other_at P w _ _ base _ T
 have G_Trip_note_arrival := @ok_Trip_note_arrival P w _ _ base _ T
 refine T.F_Trip_pass_on.ok sc_Trip_pass_on (fun vs H Q E h => ?_) (fun cdv A outer s H vs Q E hr h => ?_)
 ·obtain ⟨_, _, _, _, _, _, _, _, _, _, _, rfl, _⟩ := h; rfl
 ·have nd := sc_Trip_pass_on.nd
  have hu := hr.units
  obtain ⟨t, m, l, g, M, L, rooms, tr, tm, ps, n0, rfl, k, hM, hL, hg, n2, q⟩ := h
  refine ⟨_, (yw (xC (xB (i := 4) nd rfl (by first | exact Or.inl rfl | exact Or.inr rfl) (yx G_other_at (hr.mono (by decide)) rfl T.m_other_at T.k_other_at T.i_other_at .nil pass0 (yl (yo (xQ (pv 0) rfl) (yo (pv 1) (yo (pv 3) yu rfl) rfl) rfl)))) (xC (xB (i := 5) nd rfl (by first | exact Or.inl rfl | exact Or.inr rfl) (xD (xH rfl) (xD (xH rfl) (xD (xH rfl) (xQ (pv 0) rfl) yq (fun _ _ => rfl)) (pv 1) (fun _ _ => rfl)) yq (fun _ _ => rfl))) (xC (ps_dput (Nat.lt_of_le_of_lt (Nat.add_le_add_left (by decide) _) hu) (xD (xG rfl) (xQ (pv 0) rfl) (pv 2) (fun _ _ => rfl)) (pv 4) (pv 5) rfl) (xC (ps_augS (xQ (pv 0) rfl) (pv 1) (get_list rfl) yq ip_add set_list) (xC (ps_fld (pv 0) (pv 1) rfl) (xK (xX (xa (pv 0) T.L_Trip T.M_Trip_note_arrival G_Trip_note_arrival (hr.mono (by decide)) T.i_Trip_note_arrival .nil pass0 (yl (yo (pv 2) (yo (pv 4) (yo (pv 5) yu rfl) rfl) rfl))))))))))), ?_⟩
  have line := line9
  have hl : l < t.ls.length := (zB.mp hL).1
  obtain ⟨h, hh, ek, hd⟩ := k.kvAt hl
  obtain ⟨p0, hp⟩ : ∃ p0, ps[m]? = some p0 := ⟨_, zE (by have := (zB.mp hM).1; simpa using this)⟩
  have eM : p0.2 = M := by rw [zC, hp] at hM; exact Option.some.inj hM
  subst eM
  obtain ⟨n, hn⟩ : ∃ n, t.ns[m]? = some n := ⟨_, zE (by have := k.ln; have := (zB.mp hp).1; omega)⟩
  have hrow : H p0.1 = some (.tup p0.2.vs) := k.bk.rows p0 (zD hp)
  have atm : atI (ps.map fun a => V.ref a.1) (m : Int) = some (V.ref p0.1) := xM (by rw [zC, hp]; rfl)
  have at1 : atI (t.hs.map fun h => V.ref h.1) (l : Int) = some (V.ref h.1) := xM (by rw [zC, hh]; rfl)
  have sh := k.sh h (zD hh)
  refine ⟨_, rfl, t.x, _, t.dx, _, _, rfl, k.at_.ins, T.L_Trip, T.n_Trip_book, rfl, _, rfl, _, rfl, t.b, m, g, rooms, tr, tm, ps, p0.2, rfl, k.bk, hM, ?_⟩
  refine ⟨_, rfl, t.x, _, t.dx, _, _, rfl, k.at_.ins, T.L_Trip, T.n_Trip_book, rfl, t.b, _, _, _, rfl, rfl, SqT.of k.bk.book, rfl, _, rfl, tm, _, _, _, rfl, rfl, SqT.of k.bk.meets, atm, p0.1, _, _, _, rfl, rfl, SqT.of hrow, rfl, ?_⟩
  refine ⟨_, rfl, _, rfl, t.x, _, t.dx, _, _, rfl, k.at_.ins, T.L_Trip, T.n_Trip_holders, rfl, _, rfl, t.lH, _, _, _, rfl, rfl, SqL.of k.at_.hol, at1, _, rfl, h.1, _, rfl, DPut.k (k := Sum.inl (othI p0.2 g)) hd (by unfold kvV; rw [zA]; omega), ?_⟩
  rw [putK_kv]
  have k1 := (k.mono (yM n0)).hset hh (kv := kvput h.2 (othI p0.2 g) p0.2.t) (by have := kvput_len h.2 (othI p0.2 g) p0.2.t; omega)
  have kp1 := k.hkeep hh (o := HO.dK (kvV (kvput h.2 (othI p0.2 g) p0.2.t)))
  generalize upd H h.1 (HO.dK (kvV (kvput h.2 (othI p0.2 g) p0.2.t))) = H1 at k1 kp1 ⊢
  have pas1 : H1 t.lP = some (.lst (t.ns.map V.int)) := k1.at_.pas
  have l2 : m < (t.ns.map V.int).length := by rw [zA]; exact (zB.mp hn).1
  refine ⟨_, rfl, t.x, _, t.dx, _, _, rfl, k1.at_.ins, T.L_Trip, T.n_Trip_passed, rfl, _, rfl, t.lP, _, _, m, rfl, rfl, SqL.of pas1, (by show (t.ns.map V.int)[m]? = some (V.int n); rw [zC, hn]; rfl), _, _, rfl, rfl, t.lP, _, _, m, rfl, rfl, pas1, (by show ixN (t.ns.map V.int).length (m : Int) = some m; unfold ixN; rw [if_pos (by omega), if_pos (by omega)]; simp), ?_⟩
  have k2 : TrOk a.c_Trip (upd H1 t.lP (.lst ((t.ns.set m (n + 1)).map V.int))) { t.setH l (kvput h.2 (othI p0.2 g) p0.2.t) with ns := t.ns.set m (n + 1) } rooms tr tm ps (n0 + 1) := k1.pset (by rw [zj]; exact k.ln)
  have kp2 : Keeps t H1 (upd H1 t.lP (.lst ((t.ns.set m (n + 1)).map V.int))) := Keeps.put (.inr (.inr (.inl rfl)))
  rw [ye] at k2 kp2
  show tSeq _ _ _ _ (upd H1 t.lP (HO.lst ((t.ns.map V.int).set m (V.int (n + 1)))))
  generalize upd H1 t.lP (HO.lst ((t.ns.map V.int).set m (V.int (n + 1)))) = H2 at k2 kp2 ⊢
  have i2 : H2 t.x = some (.ins a.c_Trip t.dx [("book", .ref t.b), ("letters", .ref t.lL), ("holders", .ref t.lH), ("arrivals", .ref t.lA), ("passed", .ref t.lP), ("reached", .int t.r), ("deeds", .ref t.lD)]) := k2.at_.ins
  refine ⟨_, rfl, _, rfl, t.x, _, t.dx, _, rfl, i2, T.L_Trip, T.n_Trip_reached, by show 7 < 1000; decide, ?_⟩
  have k3 := k2.rset (r := (m : Int))
  have kp3 : Keeps t H2 (upd H2 t.x (.ins a.c_Trip t.dx [("book", .ref t.b), ("letters", .ref t.lL), ("holders", .ref t.lH), ("arrivals", .ref t.lA), ("passed", .ref t.lP), ("reached", .int (m : Int)), ("deeds", .ref t.lD)])) := Keeps.put (.inl rfl)
  have k3' : TrOk a.c_Trip (upd H2 t.x (.ins a.c_Trip t.dx (putF "reached" (.int (m : Int)) [("book", .ref t.b), ("letters", .ref t.lL), ("holders", .ref t.lH), ("arrivals", .ref t.lA), ("passed", .ref t.lP), ("reached", .int t.r), ("deeds", .ref t.lD)]))) _ rooms tr tm ps (n0 + 1) := k3
  have kp3' : Keeps t H2 (upd H2 t.x (.ins a.c_Trip t.dx (putF "reached" (.int (m : Int)) [("book", .ref t.b), ("letters", .ref t.lL), ("holders", .ref t.lH), ("arrivals", .ref t.lA), ("passed", .ref t.lP), ("reached", .int t.r), ("deeds", .ref t.lD)]))) := kp3
  have i3 : upd H2 t.x (.ins a.c_Trip t.dx (putF "reached" (.int (m : Int)) [("book", .ref t.b), ("letters", .ref t.lL), ("holders", .ref t.lH), ("arrivals", .ref t.lA), ("passed", .ref t.lP), ("reached", .int t.r), ("deeds", .ref t.lD)])) t.x = some (.ins a.c_Trip t.dx [("book", .ref t.b), ("letters", .ref t.lL), ("holders", .ref t.lH), ("arrivals", .ref t.lA), ("passed", .ref t.lP), ("reached", .int (m : Int)), ("deeds", .ref t.lD)]) := yn
  refine ⟨_, rfl, t.x, t.dx, _, rfl, i3, rfl, _, rfl, _, rfl, _, rfl, _, _, _, _, _, _, _, _, _, _, _, _, _, _, l, othI p0.2 g, p0.2.t, L, rfl, k3'.at_, hL, by show l < t.os.length; rw [k.lo]; exact hl, fun H4 b4 h4 => ?_⟩
  have k4 := k3'.aset (os := noteA t.os l L.2 (othI p0.2 g) p0.2.t) (by rw [noteA_len]; exact k.lo) b4 h4
  refine q H4 (((kp1.trans kp2).trans kp3').trans (Keeps.but (.inr (.inl rfl)) b4)) ?_
  have e : t.passed m l p0.2 L.2 (othI p0.2 g) = { t.setH l (kvput h.2 (othI p0.2 g) p0.2.t) with ns := t.ns.set m (n + 1), r := (m : Int), os := noteA t.os l L.2 (othI p0.2 g) p0.2.t } := by
   unfold Tr.passed; rw [ek, hn]; rfl
  rw [e]
  exact k4
theorem sc_Trip_do : FnScope ["self", "deed", "kind", "meeting", "letter", "giver", "walker"] ["self", "deed"] (defScope s_Trip_do) := ⟨rfl, rfl, rfl, by decide +kernel, rfl, by decide +kernel, by decide +kernel⟩
theorem ok_Trip_do (T : Tx K mg a) : FnOk P w K mg base (CXE P w) 5 a.a_Trip_do a.d_Trip_do ["self", "deed"] (spDo a.c_Trip ⟨a.c_NoDeed, a.c_NoMeeting, a.c_NoLetter, a.c_NoWalker, a.c_NotThere, a.c_HasIt, a.c_NoPass, a.c_NoRoom⟩) := by
 have G_is_passing := @ok_is_passing P w _ _ base _ T
 have G_is_drop := @ok_is_drop P w _ _ base _ T
 have G_Trip_need_drop := @ok_Trip_need_drop P w _ _ base _ T
 have G_Trip_need_passing := @ok_Trip_need_passing P w _ _ base _ T
 have G_Trip_pass_on := @ok_Trip_pass_on P w _ _ base _ T
 refine T.F_Trip_do.okE sc_Trip_do (fun vs H Q E h => ?_) (fun cdv A outer s H vs Q E hr h => ?_)
 ·obtain ⟨_, _, _, _, _, _, _, rfl, _⟩ := h; rfl
 ·have nd := sc_Trip_do.nd
  have hu := hr.units
  obtain ⟨t, y, rooms, tr, tm, ps, n0, rfl, k, n2, h⟩ := h
  refine ⟨_, (yw (xC (xL (pt_val (yx G_is_passing (hr.mono (by decide)) rfl T.m_is_passing T.k_is_passing T.i_is_passing .nil pass0 (yl (yo (pv 1) yu rfl)))) (yw (xC (PS.nox (ps_asg (pv 1) (xw (n := 4) rfl rfl (xF (y8 (i := 2) nd rfl (by first | exact Or.inl rfl | exact Or.inr rfl)) (xF (y8 (i := 3) nd rfl (by first | exact Or.inl rfl | exact Or.inr rfl)) (xF (y8 (i := 4) nd rfl (by first | exact Or.inl rfl | exact Or.inr rfl)) (xF (y8 (i := 5) nd rfl (by first | exact Or.inl rfl | exact Or.inr rfl)) xm))))))) (xC (xX (xa (E := E) (pv 0) T.L_Trip T.M_Trip_need_passing G_Trip_need_passing (hr.mono (by decide)) T.i_Trip_need_passing .nil (pass_on rfl rfl rfl (fun _ _ z => z)) (yl (yo (pv 3) (yo (pv 4) (yo (pv 5) yu rfl) rfl) rfl)))) (xC (PS.nox (xX (xa (pv 0) T.L_Trip T.M_Trip_pass_on G_Trip_pass_on (hr.mono (by decide)) T.i_Trip_pass_on .nil pass0 (yl (yo (pv 3) (yo (pv 4) (yo (pv 5) yu rfl) rfl) rfl))))) (xK (PS.nox (xL (xA xg (pv 2) xh (nomark _)) (yw (xK (ps_ddel (xD (xG rfl) (xQ (pv 0) rfl) (pv 4) (fun _ _ => rfl)) (pv 5)))) xE))))))) (yw (xK (xL (pt_val (yx G_is_drop (hr.mono (by decide)) rfl T.m_is_drop T.k_is_drop T.i_is_drop .nil pass0 (yl (yo (pv 1) yu rfl)))) (yw (xC (PS.nox (ps_asg (pv 1) (xw (n := 3) rfl rfl (xF (y8 (i := 2) nd rfl (by first | exact Or.inl rfl | exact Or.inr rfl)) (xF (y8 (i := 4) nd rfl (by first | exact Or.inl rfl | exact Or.inr rfl)) (xF (y8 (i := 6) nd rfl (by first | exact Or.inl rfl | exact Or.inr rfl)) xm)))))) (xC (xX (xa (E := E) (pv 0) T.L_Trip T.M_Trip_need_drop G_Trip_need_drop (hr.mono (by decide)) T.i_Trip_need_drop .nil (pass_on rfl rfl rfl (fun _ _ z => z)) (yl (yo (pv 4) (yo (pv 6) yu rfl) rfl)))) (xK (PS.nox (ps_ddel (xD (xG rfl) (xQ (pv 0) rfl) (pv 4) (fun _ _ => rfl)) (pv 6))))))) (yw (xK (xv rfl rfl rfl rfl rfl T.m_NoDeed T.x_NoDeed))))))) (xK (PS.nox (xX (pe_bm zX zl zm mt_append (xQ (pv 0) rfl) (yl (yo (pv 1) yu rfl)))))))), ?_⟩
  have line := line9
  rcases h with ⟨d, ⟨p, rfl, hd⟩, q1, q2⟩ | ⟨p, xs, rfl, hp, q⟩
  ·cases d with
   | drop l w0 =>
    refine ⟨_, rfl, _, rfl, .inl ⟨.drop l w0, ⟨p, rfl, hd⟩, fun H1 s1 => ⟨_, rfl, iteB0 rfl ⟨_, rfl, _, rfl, .inl ⟨l, w0, ⟨p, rfl, s1 _ _ hd⟩, fun H2 s2 => ⟨_, rfl, iteB1 rfl ?_⟩⟩⟩⟩⟩⟩
    have s12 := s1.trans s2
    have hd2 := s12 _ _ hd
    have k2 := k.same s12
    refine ⟨_, rfl, p, _, rfl, SqT.of hd2, rfl, _, _, rfl, _, _, rfl, _, _, rfl, rfl, ?_⟩
    refine ⟨_, rfl, t.x, t.dx, _, rfl, k2.at_.ins, rfl, _, rfl, _, rfl, t, l, w0, rooms, tr, tm, ps, n0, rfl, k2, fun c => ?_, fun c => q2 c H2 s12⟩
    obtain ⟨l, h, rfl, hl, hh, hw, _, _⟩ := codeD8 c
    obtain ⟨h', hh', ek, hd3⟩ := k2.kvAt hl
    rw [hh] at hh'; cases hh'
    have at1 : atI (t.hs.map fun h => V.ref h.1) (l : Int) = some (V.ref h.1) := xM (by rw [zC, hh]; rfl)
    refine ⟨_, rfl, t.x, _, t.dx, _, _, rfl, k2.at_.ins, T.L_Trip, T.n_Trip_holders, rfl, _, rfl, t.lH, _, _, _, rfl, rfl, SqL.of k2.at_.hol, at1, _, rfl, h.1, _, Sum.inl w0, rfl, hd3, rfl, (by rw [xx, zw]; exact hw), ?_⟩
    rw [dropK_kv]
    have k3 := (k2.mono (yM n0)).hset hh (kv := kvdel h.2 w0) (by have := kvdel_len h.2 w0; have := k.sh h (zD hh); omega)
    have kp3 := (Keeps.same s12).trans (k2.hkeep hh (o := HO.dK (kvV (kvdel h.2 w0))))
    generalize upd H2 h.1 (HO.dK (kvV (kvdel h.2 w0))) = H3 at k3 kp3 ⊢
    refine ⟨_, rfl, t.x, _, t.dx, _, _, rfl, k3.at_.ins, T.L_Trip, T.n_Trip_deeds, rfl, .inl ⟨rfl, _, SqL.of k3.at_.dee⟩, _, rfl, t.lD, t.ds, _, rfl, rfl, k3.at_.dee, by have := k.dn; omega, ?_⟩
    refine q1 c _ (kp3.trans (Keeps.put (.inr (.inr (.inr (.inl rfl)))))) ?_
    have kZ : TrOk a.c_Trip (upd H3 t.lD (.lst (t.ds ++ [V.ref p]))) { t.setH l (kvdel h.2 w0) with ds := t.ds ++ [V.ref p] } rooms tr tm ps (n0 + 1) := k3.dset (by have := k.dn; show t.ds.length < n0 + 1; omega)
    have e : t.doneT (ps.map (·.2)) (V.ref p) (.drop (l : Int) w0) = { t.setH l (kvdel h.2 w0) with ds := t.ds ++ [V.ref p] } := by
     unfold Tr.doneT; dsimp only; rw [zF, ek]
    rw [e]; exact kZ
   | pass gv m l g =>
    refine ⟨_, rfl, _, rfl, .inl ⟨.pass gv m l g, ⟨p, rfl, hd⟩, fun H1 s1 => ⟨_, rfl, iteB1 rfl ?_⟩⟩⟩
    have hd1 := s1 _ _ hd
    have k1 := k.same s1
    refine ⟨_, rfl, p, _, rfl, SqT.of hd1, rfl, _, _, rfl, _, _, rfl, _, _, rfl, _, _, rfl, rfl, ?_⟩
    refine ⟨_, rfl, t.x, t.dx, _, rfl, k1.at_.ins, rfl, _, rfl, _, rfl, _, rfl, t, m, l, g, rooms, tr, tm, ps, n0, rfl, k1, fun c H2 s2 => ?_, fun c H2 s2 => q2 c H2 (s1.trans s2)⟩
    obtain ⟨m, l, M, L, h, rfl, rfl, hM, hL, hh, hr', hg, hb, ho, _⟩ := codeP8 k.lh c
    have k2 := k1.same s2
    refine ⟨_, rfl, t.x, t.dx, _, rfl, k2.at_.ins, rfl, _, rfl, _, rfl, _, rfl, t, m, l, g, M, L, rooms, tr, tm, ps, n0, rfl, k2, hM, hL, hg, n2, fun H3 kp3 k3 => ?_⟩
    have kp := (Keeps.same (s1.trans s2)).trans kp3
    have eT : ∀ gv, t.doneT (ps.map (·.2)) (V.ref p) (.pass gv (m : Int) (l : Int) g) = { t.doneP gv m l g M L.2 with ds := t.ds ++ [V.ref p] } := fun gv => by
     unfold Tr.doneT; dsimp only; rw [zF, zF, hM, hL]
    refine ⟨_, rfl, rfl, _, rfl, ?_⟩
    cases gv with
    | false =>
     refine iteB0 rfl ?_
     refine ⟨_, rfl, t.x, _, t.dx, _, _, rfl, k3.at_.ins, T.L_Trip, T.n_Trip_deeds, rfl, .inl ⟨rfl, _, SqL.of k3.at_.dee⟩, _, rfl, t.lD, t.ds, _, rfl, rfl, k3.at_.dee, by have := k.dn; omega, ?_⟩
     refine q1 c _ (kp.trans (Keeps.put (.inr (.inr (.inr (.inl rfl)))))) ?_
     have kZ : TrOk a.c_Trip (upd H3 t.lD (.lst (t.ds ++ [V.ref p]))) { t.passed m l M L.2 (othI M g) with ds := t.ds ++ [V.ref p] } rooms tr tm ps (n0 + 1) := k3.dset (by have := k.dn; show t.ds.length < n0 + 1; omega)
     rw [eT]; exact kZ
    | true =>
     have pk := passed_kv (m := m) (M := M) (L := L.2) (o := othI M g) (C := a.c_Trip) (H := H) (rooms := rooms) (tr := tr) (tm := tm) (ps := ps) (n0 := n0) hh
     have lp : l < (t.passed m l M L.2 (othI M g)).ls.length := (zB.mp hL).1
     obtain ⟨h', hh', ek, hd3⟩ := k3.kvAt lp
     rw [pk.1] at hh'; cases hh'
     have at1 : atI ((t.passed m l M L.2 (othI M g)).hs.map fun h => V.ref h.1) (l : Int) = some (V.ref h.1) := xM (by rw [zC, pk.1]; rfl)
     refine iteB1 rfl ⟨_, rfl, t.x, _, t.dx, _, _, rfl, k3.at_.ins, T.L_Trip, T.n_Trip_holders, rfl, _, rfl, t.lH, _, _, _, rfl, rfl, SqL.of k3.at_.hol, at1, _, rfl, h.1, _, Sum.inl g, rfl, hd3, rfl, (by rw [xx, zw, kvget_put]; split; rfl; exact below_some hb), ?_⟩
     rw [dropK_kv]
     have k4 := k3.hset pk.1 (kv := kvdel (kvput h.2 (othI M g) M.t) g) (by have := kvdel_len (kvput h.2 (othI M g) M.t) g; have := kvput_len h.2 (othI M g) M.t; have := k.sh h (zD hh); omega)
     have kp4 : Keeps t H (upd H3 h.1 (HO.dK (kvV (kvdel (kvput h.2 (othI M g) M.t) g)))) := kp.trans (Keeps.put (.inr (.inr (.inr (.inr (zQ.mpr ⟨h, zD hh, rfl⟩))))))
     have k4' : TrOk a.c_Trip (upd H3 h.1 (HO.dK (kvV (kvdel (kvput h.2 (othI M g) M.t) g)))) ((t.passed m l M L.2 (othI M g)).setH l (kvdel (kvput h.2 (othI M g) M.t) g)) rooms tr tm ps (n0 + 1) := k4
     generalize upd H3 h.1 (HO.dK (kvV (kvdel (kvput h.2 (othI M g) M.t) g))) = H4 at k4' kp4 ⊢
     refine ⟨_, rfl, t.x, _, t.dx, _, _, rfl, k4'.at_.ins, T.L_Trip, T.n_Trip_deeds, rfl, .inl ⟨rfl, _, SqL.of k4'.at_.dee⟩, _, rfl, t.lD, t.ds, _, rfl, rfl, k4'.at_.dee, by have := k.dn; omega, ?_⟩
     refine q1 c _ (kp4.trans (Keeps.put (.inr (.inr (.inr (.inl rfl)))))) ?_
     have kZ : TrOk a.c_Trip (upd H4 t.lD (.lst (t.ds ++ [V.ref p]))) { (t.passed m l M L.2 (othI M g)).setH l (kvdel (kvput h.2 (othI M g) M.t) g) with ds := t.ds ++ [V.ref p] } rooms tr tm ps (n0 + 1) := k4'.dset (by have := k.dn; show t.ds.length < n0 + 1; omega)
     rw [eT]
     have eP : t.doneP true m l g M L.2 = (t.passed m l M L.2 (othI M g)).setH l (kvdel (kvput h.2 (othI M g) M.t) g) := by
      unfold Tr.doneP; rw [if_pos rfl, pk.2]
     rw [eP]; exact kZ
  ·exact ⟨_, rfl, _, rfl, .inr ⟨p, xs, rfl, hp, _, rfl, iteB0 rfl ⟨_, rfl, _, rfl, .inr ⟨p, xs, rfl, hp, _, rfl, iteB0 rfl q⟩⟩⟩⟩
theorem sc__law_any : FnScope ["_law_purse_here", "_law_many", "_law_way"] ["_law_purse_here", "_law_many"] (defScope s__law_any) := ⟨rfl, rfl, rfl, by decide +kernel, rfl, by decide +kernel, by decide +kernel⟩
theorem ok__law_any (T : Tx K mg a) : FnOk P w K mg base CX0 2 a.a__law_any a.d__law_any ["_law_purse_here", "_law_many"] (spAny) := by
 have G__law_take := @xN P w _ _ base _ T
 refine T.F__law_any.ok sc__law_any (fun vs H Q E h => ?_) (fun cdv A outer s H vs Q E hr h => ?_)
 ·obtain ⟨_, _, rfl, _⟩ := h; rfl
 ·have nd := sc__law_any.nd
  have hu := hr.units
  obtain ⟨p, n, rfl, m0, m1, pu, q⟩ := h
  refine ⟨_, (yw (xC (xB (i := 2) nd rfl (by first | exact Or.inl rfl | exact Or.inr rfl) (yx G__law_take (hr.mono (by decide)) rfl T.m__law_take T.k__law_take T.i__law_take .nil pass0 (yl (yo (pv 0) (yo yq yu rfl) rfl)))) (xC (xL (xA xg (pv 2) yq (nomark _)) (yw (xK (xJ (xI op_sub (pe_un un_neg yq) (yx G__law_take (hr.mono (by decide)) rfl T.m__law_take T.k__law_take T.i__law_take .nil pass0 (yl (yo (pv 0) (yo yq yu rfl) rfl))))))) xE) (xC (xL (xA xg (pv 2) yq (nomark _)) (yw (xK (xJ (xI xV (pv 1) (yx G__law_take (hr.mono (by decide)) rfl T.m__law_take T.k__law_take T.i__law_take .nil pass0 (yl (yo (pv 0) (yo yq yu rfl) rfl))))))) xE) (xC (xL (xA xg (pv 2) yq (nomark _)) (yw (xK (xJ (xI op_sub (yx G__law_take (hr.mono (by decide)) rfl T.m__law_take T.k__law_take T.i__law_take .nil pass0 (yl (yo (pv 0) (yo (xI op_pow yq yq) yu rfl) rfl))) (xI op_mul yq (xI op_pow yq yq)))))) xE) (xC (xL (xA xg (pv 2) yq (nomark _)) (yw (xK (xJ (yx G__law_take (hr.mono (by decide)) rfl T.m__law_take T.k__law_take T.i__law_take .nil pass0 (yl (yo (pv 0) (yo (xI op_pow yq yq) yu rfl) rfl)))))) xE) (xK (xJ (yx G__law_take (hr.mono (by decide)) rfl T.m__law_take T.k__law_take T.i__law_take .nil pass0 (yl (yo (pv 0) (yo (yz (call_max2 rfl) (by rfl) T.b_max PyProof.Rows.boot_max (yl (yo yq (yo (pv 1) yu rfl) rfl))) yu rfl) rfl))))))))))), ?_⟩
  have line := line9
  have c30 : CPow 10 30 := ⟨by decide, by decide, by decide⟩
  have c29 : CPow 10 29 := ⟨by decide, by decide, by decide⟩
  have e200 : (2 : Int) ^ 200 > 100000 := by decide
  refine ⟨_, rfl, p, 8, rfl, by decide, by decide, pu, fun d1 H1 d0 d8 g1 => ?_⟩
  refine ⟨_, rfl, rfl, _, rfl, iteB (fun c => ?_) (fun c => ?_)⟩
  ·exact ⟨_, rfl, _, rfl, p, 3, rfl, by decide, by decide, g1.2, fun d2 H2 e0 e3 g2 => ⟨_, _, rfl, rfl, q _ _ (g1.trans g2)⟩⟩
  refine ⟨_, rfl, rfl, _, rfl, iteB (fun c => ?_) (fun c => ?_)⟩
  ·exact ⟨_, rfl, _, rfl, p, 3, rfl, by decide, by decide, g1.2, fun d2 H2 e0 e3 g2 => ⟨_, _, rfl, rfl, q _ _ (g1.trans g2)⟩⟩
  refine ⟨_, rfl, rfl, _, rfl, iteB (fun c => ?_) (fun c => ?_)⟩
  ·refine ⟨_, rfl, _, _, rfl, rfl, c30, p, _, rfl, by decide, by decide, g1.2, fun d2 H2 e0 e64 g2 => ?_⟩
   exact ⟨_, _, rfl, rfl, c29, _, _, rfl, rfl, .inl ⟨by decide, by decide⟩, _, _, rfl, rfl, q _ _ (g1.trans g2)⟩
  refine ⟨_, rfl, rfl, _, rfl, iteB (fun c => ?_) (fun c => ?_)⟩
  ·exact ⟨_, rfl, _, _, rfl, rfl, c30, p, _, rfl, by decide, by decide, g1.2, fun d2 H2 e0 e64 g2 => q _ _ (g1.trans g2)⟩
  refine ⟨_, rfl, _, rfl, _, _, rfl, p, _, rfl, by split <;> omega, by split <;> omega, g1.2, fun d2 H2 e0 e64 g2 => q _ _ (g1.trans g2)⟩
theorem sc__law_wild : FnScope ["_law_purse_here", "_law_book_here", "_law_many", "_law_word", "_law_meeting", "_law_number", "_law_walker"] ["_law_purse_here", "_law_book_here", "_law_many"] (defScope s__law_wild) := ⟨rfl, rfl, rfl, by decide +kernel, rfl, by decide +kernel, by decide +kernel⟩
theorem ok__law_wild (T : Tx K mg a) : FnOk P w K mg base CX0 3 a.a__law_wild a.d__law_wild ["_law_purse_here", "_law_book_here", "_law_many"] (spWild) := by
 have G__law_take := @xN P w _ _ base _ T
 have G__law_any := @ok__law_any P w _ _ base _ T
 refine T.F__law_wild.ok sc__law_wild (fun vs H Q E h => ?_) (fun cdv A outer s H vs Q E hr h => ?_)
 ·obtain ⟨_, _, _, _, _, _, _, rfl, _⟩ := h; rfl
 ·have nd := sc__law_wild.nd
  have hu := hr.units
  obtain ⟨p, b, n, rooms, tr, tm, ps, rfl, m0, m1, hb, rn, pn, pu, q⟩ := h
  refine ⟨_, (yw (xC (xB (i := 3) nd rfl (by first | exact Or.inl rfl | exact Or.inr rfl) (xD (xG rfl) (xS (yl (yo xh (yo xh (yo xh yu rfl) rfl) rfl))) (yx G__law_take (hr.mono (by decide)) rfl T.m__law_take T.k__law_take T.i__law_take .nil pass0 (yl (yo (pv 0) (yo yq yu rfl) rfl))) (fun _ _ => rfl))) (xC (xB (i := 4) nd rfl (by first | exact Or.inl rfl | exact Or.inr rfl) (yx G__law_any (hr.mono (by decide)) rfl T.m__law_any T.k__law_any T.i__law_any .nil pass0 (yl (yo (pv 0) (yo (yz (y6 rfl) (by rfl) T.b_len PySem.boot_len (yl (yo (xD (xH rfl) (pv 1) yq (fun _ _ => rfl)) yu rfl))) yu rfl) rfl)))) (xC (xB (i := 5) nd rfl (by first | exact Or.inl rfl | exact Or.inr rfl) (yx G__law_any (hr.mono (by decide)) rfl T.m__law_any T.k__law_any T.i__law_any .nil pass0 (yl (yo (pv 0) (yo (pv 2) yu rfl) rfl)))) (xC (xB (i := 6) nd rfl (by first | exact Or.inl rfl | exact Or.inr rfl) (yx G__law_any (hr.mono (by decide)) rfl T.m__law_any T.k__law_any T.i__law_any .nil pass0 (yl (yo (pv 0) (yo (yz (y6 rfl) (by rfl) T.b_len PySem.boot_len (yl (yo (xD (xH rfl) (pv 1) yq (fun _ _ => rfl)) yu rfl))) yu rfl) rfl)))) (xC (xL (xA xg (pv 3) xh (nomark _)) (yw (xK (xJ (xq (yl (yo (pv 3) (yo (pv 5) (yo (pv 6) yu rfl) rfl) rfl)))))) xE) (xK (xJ (xq (yl (yo (pv 3) (yo (pv 4) (yo (pv 5) (yo (pv 6) yu rfl) rfl) rfl) rfl))))))))))), ?_⟩
  have line := line9
  refine ⟨by show 3 <= sizeLine; omega, fun l0 hl0 => ⟨_, rfl, p, 3, rfl, by decide, by decide, pu.new hl0, fun d H1 d0 d3 g1 => ?_⟩⟩
  have n0 : l0 ≠ p := pu.ne hl0
  obtain ⟨v, av, mv⟩ := atI_ex (xs := [V.str (Str.ofString "give"), V.str (Str.ofString "copy"), V.str (Str.ofString "drop")]) (i := d) d0 (by show d < 3; omega)
  simp only [zR, List.not_mem_nil, or_false] at mv
  refine ⟨l0, _, _, _, rfl, rfl, SqL.of (g1.1 _ _ n0 yn), av, ?_⟩
  have G1 : Go p H H1 := ⟨fun c u n e => g1.1 c u n (yt hl0 _ _ e), g1.2⟩
  have hb1 := hb.tups (G1.tups pu)
  refine ⟨_, rfl, _, rfl, b, _, _, _, rfl, rfl, SqT.of hb1.book, rfl, tm, _, rfl, .inr (SqT.of hb1.meets), p, _, rfl, by omega, by rw [zA]; omega, G1.2, fun z1 H2 g2 => ?_⟩
  refine ⟨_, rfl, _, rfl, p, n, rfl, m0, m1, g2.2, fun z2 H3 g3 => ?_⟩
  have G3 := (G1.trans g2).trans g3
  have hb3 := hb.tups (G3.tups pu)
  refine ⟨_, rfl, _, rfl, b, _, _, _, rfl, rfl, SqT.of hb3.book, rfl, tr, _, rfl, .inr (SqT.of hb3.rooms), p, _, rfl, by omega, by rw [zA]; omega, G3.2, fun z3 H4 g4 => ?_⟩
  have G := G3.trans g4
  rcases mv with rfl | rfl | rfl
  ·exact ⟨_, rfl, rfl, _, rfl, iteB0 rfl ⟨_, rfl, _, rfl, _, rfl, _, rfl, by show 4 <= _; omega, fun t ht => q (.ref t) (.pass true z1 z2 z3) _ (G.new ht) ⟨t, rfl, yn⟩⟩⟩
  ·exact ⟨_, rfl, rfl, _, rfl, iteB0 rfl ⟨_, rfl, _, rfl, _, rfl, _, rfl, by show 4 <= _; omega, fun t ht => q (.ref t) (.pass false z1 z2 z3) _ (G.new ht) ⟨t, rfl, yn⟩⟩⟩
  ·exact ⟨_, rfl, rfl, _, rfl, iteB1 rfl ⟨_, rfl, _, rfl, _, rfl, by show 3 <= _; omega, fun t ht => q (.ref t) (.drop z2 z3) _ (G.new ht) ⟨t, rfl, yn⟩⟩⟩
theorem sc__law_likely : FnScope ["_law_purse_here", "_law_book_here", "_law_holders", "_law_at", "_law_number", "_law_some", "_law_walker", "_law_word", "_law_near"] ["_law_purse_here", "_law_book_here", "_law_holders", "_law_at"] (defScope s__law_likely) := ⟨rfl, rfl, rfl, by decide +kernel, rfl, by decide +kernel, by decide +kernel⟩
theorem ok__law_likely (T : Tx K mg a) : FnOk P w K mg base CX0 4 a.a__law_likely a.d__law_likely ["_law_purse_here", "_law_book_here", "_law_holders", "_law_at"] (spLikely) := by
 have G__law_take := @xN P w _ _ base _ T
 have G__law_wild := @ok__law_wild P w _ _ base _ T
 refine T.F__law_likely.ok sc__law_likely (fun vs H Q E h => ?_) (fun cdv A outer s H vs Q E hr h => ?_)
 ·obtain ⟨_, _, _, _, _, _, _, _, _, rfl, _⟩ := h; rfl
 ·have nd := sc__law_likely.nd
  have hu := hr.units
  obtain ⟨p, b, l, at0, gs, rooms, tr, tm, ps, rfl, hb, rm1, rm2, gd, ha, hl, lp, g41, g64, pu, q⟩ := h
  refine ⟨_, (yw (xC (xL (PW.pt (pw_or (xA (op_eqE hu) (pv 2) (xS wB) (nomark _)) (pw_or1 (xA xg (yx G__law_take (hr.mono (by decide)) rfl T.m__law_take T.k__law_take T.i__law_take .nil pass0 (yl (yo (pv 0) (yo yq yu rfl) rfl))) yq (nomark _))))) (yw (xK (xJ (yx G__law_wild (hr.mono (by decide)) rfl T.m__law_wild T.k__law_wild T.i__law_wild .nil pass0 (yl (yo (pv 0) (yo (pv 1) (yo (yz (y6 rfl) (by rfl) T.b_len PySem.boot_len (yl (yo (pv 2) yu rfl))) yu rfl) rfl) rfl)))))) xE) (xC (xB (i := 4) nd rfl (by first | exact Or.inl rfl | exact Or.inr rfl) (yx G__law_take (hr.mono (by decide)) rfl T.m__law_take T.k__law_take T.i__law_take .nil pass0 (yl (yo (pv 0) (yo (yz (y6 rfl) (by rfl) T.b_len PySem.boot_len (yl (yo (pv 2) yu rfl))) yu rfl) rfl)))) (xC (xB (i := 5) nd rfl (by first | exact Or.inl rfl | exact Or.inr rfl) (yz (call_sortD rfl) (by rfl) T.b_sorted PyProof.Rows.boot_sorted (yl (yo (xD (xG rfl) (pv 2) (pv 4) (fun _ _ => rfl)) yu rfl)))) (xC (xL (xA (op_eqE hu) (pv 5) (xS wB) (nomark _)) (yw (xK (xJ (xq (yl (yo xh (yo (pv 4) (yo (yx G__law_take (hr.mono (by decide)) rfl T.m__law_take T.k__law_take T.i__law_take .nil pass0 (yl (yo (pv 0) (yo (yz (y6 rfl) (by rfl) T.b_len PySem.boot_len (yl (yo (xD (xH rfl) (pv 1) yq (fun _ _ => rfl)) yu rfl))) yu rfl) rfl))) yu rfl) rfl) rfl)))))) xE) (xC (xB (i := 6) nd rfl (by first | exact Or.inl rfl | exact Or.inr rfl) (xD (xG rfl) (pv 5) (yx G__law_take (hr.mono (by decide)) rfl T.m__law_take T.k__law_take T.i__law_take .nil pass0 (yl (yo (pv 0) (yo (yz (y6 rfl) (by rfl) T.b_len PySem.boot_len (yl (yo (pv 5) yu rfl))) yu rfl) rfl))) (fun _ _ => rfl))) (xC (xB (i := 7) nd rfl (by first | exact Or.inl rfl | exact Or.inr rfl) (xD (xG rfl) (xS (yl (yo xh (yo xh (yo xh (yo xh (yo xh (yo xh yu rfl) rfl) rfl) rfl) rfl) rfl))) (yx G__law_take (hr.mono (by decide)) rfl T.m__law_take T.k__law_take T.i__law_take .nil pass0 (yl (yo (pv 0) (yo yq yu rfl) rfl))) (fun _ _ => rfl))) (xC (ps_setComp (ix := 8) nd rfl (by first | exact Or.inl rfl | exact Or.inr rfl) (own := ["_law_k"]) (caps := [6, 2, 4, 1]) rfl (show CompScope ["_law_k"] [6, 2, 4, 1] ["_law_purse_here", "_law_book_here", "_law_holders", "_law_at", "_law_number", "_law_some", "_law_walker", "_law_word", "_law_near"] (defScope s__law_likely) _ from ⟨rfl, by decide +kernel, by decide +kernel, by decide +kernel, by decide +kernel⟩) (pi_range2 rfl T.b_range (yl (yo (pv 3) (yo (yz (y6 rfl) (by rfl) T.b_len PySem.boot_len (yl (yo (xD (xH rfl) (pv 1) yq (fun _ _ => rfl)) yu rfl))) yu rfl) rfl))) (fun _ _ _ _ => (y8 (i := 0) (show List.Nodup (["_law_k", "_law_walker", "_law_holders", "_law_number", "_law_book_here"] : List Str) from by decide +kernel) rfl (by first | exact Or.inl rfl | exact Or.inr rfl))) (fun _ _ _ _ => pts_one (PW.pt (pw_and (xA (op_in_seq' rfl) (pv 1) (pe_slice (sl_tup' rfl) (xD (xH rfl) (xD (xH rfl) (pv 4) yq (fun _ _ => rfl)) (pv 0) (fun _ _ => rfl)) po_none (po_some yq)) rfl) (pw_and1 (xA op_gt (xD (xH rfl) (xD (xH rfl) (xD (xH rfl) (pv 4) yq (fun _ _ => rfl)) (pv 0) (fun _ _ => rfl)) yq (fun _ _ => rfl)) (pe_dget (Nat.lt_of_le_of_lt (Nat.add_le_add_left (by decide) _) hu) (xD (xG rfl) (pv 2) (pv 3) (fun _ _ => rfl)) (pv 1) (fun _ _ => rfl)) (nomark _)))))) (fun _ _ _ _ => (pv 0))) (xC (xL (xA xg (pv 7) xh (nomark _)) (yw (xK (xJ (xq (yl (yo (pv 7) (yo (pv 4) (yo (pv 6) yu rfl) rfl) rfl)))))) xE) (xC (xL (xA (op_eqE hu) (pv 8) (xS wB) (nomark _)) (yw (xK (xJ (yx G__law_wild (hr.mono (by decide)) rfl T.m__law_wild T.k__law_wild T.i__law_wild .nil pass0 (yl (yo (pv 0) (yo (pv 1) (yo (yz (y6 rfl) (by rfl) T.b_len PySem.boot_len (yl (yo (pv 2) yu rfl))) yu rfl) rfl) rfl)))))) xE) (xK (xJ (xq (yl (yo (pv 7) (yo (xD (xG rfl) (pv 8) (yz (call_min2 rfl) (by rfl) T.b_min PyProof.Rows.boot_min (yl (yo (yx G__law_take (hr.mono (by decide)) rfl T.m__law_take T.k__law_take T.i__law_take .nil pass0 (yl (yo (pv 0) (yo yq yu rfl) rfl))) (yo (xI op_sub (yz (y6 rfl) (by rfl) T.b_len PySem.boot_len (yl (yo (pv 8) yu rfl))) yq) yu rfl) rfl))) (fun _ _ => rfl)) (yo (pv 4) (yo (pv 6) yu rfl) rfl) rfl) rfl))))))))))))))), ?_⟩
  have line := line9
  have n60 := gd.len
  have e200 : (2 : Int) ^ 200 > 100000 := by decide
  have wild : ∀ H1 : Hp, Go p H H1 -> BookAt H1 b rooms tr tm ps /\ H1 l = some (.lst (gs.map fun g => V.ref g.1)) /\ ∀ g ∈ gs, H1 g.1 = some (.dK (kvV g.2)) := fun H1 g1 =>
   ⟨hb.tups (g1.tups pu), g1.1 _ _ lp hl.1, fun g hg => g1.1 _ _ (fun z => by obtain ⟨_, _, _, e⟩ := pu; have := hl.2 g hg; rw [z, e] at this; cases this) (hl.2 g hg)⟩
  refine ⟨_, rfl, by show 0 <= sizeLine; omega, fun le hle => ?_⟩
  have G1 : Go p H (upd H le (HO.lst [])) := ⟨fun c u n e => yt hle _ _ e, pu.new hle⟩
  have ke : upd H le (HO.lst []) le = some (.lst []) := yn
  generalize upd H le (HO.lst []) = H1 at G1 ke ⊢
  obtain ⟨hb1, hl1, hd1⟩ := wild H1 G1
  refine ⟨0, l, le, _, _, fun _ => true, decide (gs = []), by decide, rfl, rfl, .inl ⟨SqL.of hl1, SqL.of ke⟩, ?_, (fun i x y hx hy => by simp at hy), _, rfl, iteB (fun c => ?_) (fun c => ?_)⟩
  ·cases gs with
   | nil => rfl
   | cons x xs => simp
  ·exact iteB1 rfl ⟨_, rfl, _, rfl, _, rfl, l, _, rfl, .inl (SqL.of hl1), p, b, _, rooms, tr, tm, ps, rfl, by omega, by rw [zA]; omega, hb1, rm2, n60, G1.2, fun y d H2 g2 hd => q y d H2 (G1.trans g2) hd⟩
  have ne : gs ≠ [] := of_decide_eq_false c
  have lg : 0 < gs.length := List.length_pos_iff.mpr ne
  refine ⟨_, rfl, p, 5, rfl, by decide, by decide, G1.2, fun d5 H2 e0 e5 g2 => ⟨rfl, _, rfl, iteB (fun c => ?_) (fun c => ?_)⟩⟩
  ·have G2 := G1.trans g2
   obtain ⟨hb2, hl2, hd2⟩ := wild H2 G2
   exact ⟨_, rfl, _, rfl, _, rfl, l, _, rfl, .inl (SqL.of hl2), p, b, _, rooms, tr, tm, ps, rfl, by omega, by rw [zA]; omega, hb2, rm2, n60, G2.2, fun y d H3 g3 hd => q y d H3 (G2.trans g3) hd⟩
  have G2 := G1.trans g2
  obtain ⟨hb2, hl2, hd2⟩ := wild H2 G2
  refine ⟨_, rfl, _, rfl, l, _, rfl, .inl (SqL.of hl2), p, _, rfl, by rw [zA]; omega, by rw [zA]; omega, G2.2, fun dn H3 n0 n1 g3 => ?_⟩
  rw [zA] at n1
  obtain ⟨n, rfl⟩ := zO n0
  have G3 := G2.trans g3
  obtain ⟨hb3, hl3, hd3⟩ := wild H3 G3
  obtain ⟨g, hg⟩ : ∃ g, gs[n]? = some g := ⟨_, zE (by omega)⟩
  have gm := zD hg
  have at1 : atI (gs.map fun g => V.ref g.1) (n : Int) = some (V.ref g.1) := xM (by rw [zC, hg]; rfl)
  refine ⟨_, rfl, _, rfl, l, _, _, _, rfl, rfl, SqL.of hl3, at1, g.1, g.2, rfl, hd3 g gm, g64 g gm, fun ls ms hls pm pw => ?_⟩
  have G4 := G3.new (o := HO.lst (ms.map V.int)) hls
  have nls : ls ≠ p := G3.2.ne hls
  have ks : upd H3 ls (HO.lst (ms.map V.int)) ls = some (.lst (ms.map V.int)) := yn
  generalize upd H3 ls (HO.lst (ms.map V.int)) = H4 at G4 ks ⊢
  have lm : ms.length < 64 := by have := pm.length_eq; rw [zA] at this; have := g64 g gm; omega
  refine ⟨_, rfl, by show 0 <= sizeLine; omega, fun lf hlf => ?_⟩
  have G5 := G4.new (o := HO.lst []) hlf
  have kf : upd H4 lf (HO.lst []) lf = some (.lst []) := yn
  replace ks := yt (o := HO.lst []) hlf _ _ ks
  generalize upd H4 lf (HO.lst []) = H5 at G5 ks kf ⊢
  obtain ⟨hb5, hl5, hd5⟩ := wild H5 G5
  refine ⟨0, ls, lf, _, _, fun _ => true, decide (ms = []), by decide, rfl, rfl, .inl ⟨SqL.of ks, SqL.of kf⟩, ?_, (fun i x y hx hy => by simp at hy), _, rfl, iteB (fun c => ?_) (fun c => ?_)⟩
  ·cases ms with
   | nil => rfl
   | cons x xs => simp
  ·exact ⟨_, rfl, _, rfl, _, rfl, b, _, _, _, rfl, rfl, SqT.of hb5.book, rfl, tr, _, rfl, .inr (SqT.of hb5.rooms), p, _, rfl, by rw [zA]; omega, by rw [zA]; omega, G5.2, fun dw H6 w0 w1 g6 => ⟨by show 3 <= sizeLine; omega, fun t ht => q (.ref t) (.drop n dw) _ ((G5.trans g6).new ht) ⟨t, rfl, yn⟩⟩⟩
  have nm : ms ≠ [] := of_decide_eq_false c
  have lm0 : 0 < ms.length := List.length_pos_iff.mpr nm
  refine ⟨_, rfl, _, rfl, _, rfl, ls, _, rfl, .inl (SqL.of ks), p, _, rfl, by rw [zA]; omega, by rw [zA]; omega, G5.2, fun dw H6 w0 w1 g6 => ?_⟩
  rw [zA] at w1
  obtain ⟨j, rfl⟩ := zO w0
  obtain ⟨wk, hwk⟩ : ∃ wk, ms[j]? = some wk := ⟨_, zE (by omega)⟩
  have atw : atI (ms.map V.int) (j : Int) = some (V.int wk) := xM (by rw [zC, hwk]; rfl)
  obtain ⟨tk, etk⟩ : ∃ tk, kvget g.2 wk = some tk := by
   have h1 := pm.mem_iff.mp (zD hwk)
   obtain ⟨pr, hpr, e⟩ := zQ.mp h1
   have : (g.2.any fun p => decide (p.1 = wk)) = true := List.any_eq_true.mpr ⟨pr, hpr, decide_eq_true e⟩
   rw [kv_any] at this
   exact zx.mp this
  have G6 := G5.trans g6
  refine ⟨ls, _, _, _, rfl, rfl, SqL.of (g6.1 _ _ nls ks), atw, ?_⟩
  refine ⟨by show 6 <= sizeLine; omega, fun lw hlw => ?_⟩
  have G7 := G6.new (o := HO.lst [V.str (Str.ofString "copy"), V.str (Str.ofString "give"), V.str (Str.ofString "copy"), V.str (Str.ofString "give"), V.str (Str.ofString "copy"), V.str (Str.ofString "drop")]) hlw
  have nlw : lw ≠ p := G6.2.ne hlw
  have kw : upd H6 lw (HO.lst [V.str (Str.ofString "copy"), V.str (Str.ofString "give"), V.str (Str.ofString "copy"), V.str (Str.ofString "give"), V.str (Str.ofString "copy"), V.str (Str.ofString "drop")]) lw = some (.lst [V.str (Str.ofString "copy"), V.str (Str.ofString "give"), V.str (Str.ofString "copy"), V.str (Str.ofString "give"), V.str (Str.ofString "copy"), V.str (Str.ofString "drop")]) := yn
  generalize upd H6 lw (HO.lst [V.str (Str.ofString "copy"), V.str (Str.ofString "give"), V.str (Str.ofString "copy"), V.str (Str.ofString "give"), V.str (Str.ofString "copy"), V.str (Str.ofString "drop")]) = H7 at G7 kw ⊢
  refine ⟨_, rfl, p, 6, rfl, by decide, by decide, G7.2, fun d6 H8 x0 x1 g8 => ?_⟩
  obtain ⟨v, av, mv⟩ := atI_ex (xs := [V.str (Str.ofString "copy"), V.str (Str.ofString "give"), V.str (Str.ofString "copy"), V.str (Str.ofString "give"), V.str (Str.ofString "copy"), V.str (Str.ofString "drop")]) (i := d6) x0 (by show d6 < 6; omega)
  have wd : (∃ gv, v = V.str (wordG gv)) \/ v = V.str (Str.ofString "drop") := by
   simp only [zR, List.not_mem_nil, or_false] at mv
   rcases mv with rfl | rfl | rfl | rfl | rfl | rfl
   ·exact .inl ⟨false, rfl⟩
   ·exact .inl ⟨true, rfl⟩
   ·exact .inl ⟨false, rfl⟩
   ·exact .inl ⟨true, rfl⟩
   ·exact .inl ⟨false, rfl⟩
   ·exact .inr rfl
  have G8 := G7.trans g8
  obtain ⟨hb8, hl8, hd8⟩ := wild H8 G8
  refine ⟨lw, _, _, _, rfl, rfl, SqL.of (g8.1 _ _ nlw kw), av, ?_⟩
  refine ⟨_, rfl, _, rfl, b, _, _, _, rfl, rfl, SqT.of hb8.book, rfl, tm, _, rfl, .inr (SqT.of hb8.meets), _, _, rfl, ⟨by omega, by omega, by rw [zA]; omega, by rw [zA]; omega⟩, ?_⟩
  have ln : ((((ps.map fun a => V.ref a.1).length : Nat) : Int) - (at0 : Int)).toNat = ps.length - at0 := by rw [zA]; omega
  refine x6 (lo := (at0 : Int)) (fun i τ acc H9 => ∃ ks : List Int, (∃ t0, τ = [t0, some (.int wk), some (.ref l), some (.int (n : Int)), some (.ref b)]) /\ acc = ks.map V.int /\ ks.length <= i /\ Same H8 H9) ⟨[], ⟨_, rfl⟩, rfl, zG _, Same.refl _⟩ (by rw [ln]; omega) ?_ ?_ ?_
  ·rintro i τ acc H9 ⟨ks, _, rfl, lk, _⟩
   rw [zA]; exact lk
  ·rintro i τ acc H9 C hi ⟨ks, ⟨t0, rfl⟩, rfl, lk, sm⟩ hC
   rw [ln] at hi
   have hk : at0 + i < ps.length := by omega
   obtain ⟨r, hr⟩ : ∃ r, ps[at0 + i]? = some r := ⟨_, zE hk⟩
   have atk : atI (ps.map fun a => V.ref a.1) ((at0 : Int) + (i : Int)) = some (V.ref r.1) := (show atI (ps.map fun a => V.ref a.1) ((at0 + i : Nat) : Int) = _ from xM (by rw [zC, hr]; rfl))
   have hb9 := hb8.same sm
   have hrow : H9 r.1 = some (.tup [V.int r.2.lo, V.int r.2.hi, V.int r.2.t, V.int r.2.m]) := hb9.rows r (zD hr)
   have no : ∀ H10, Same H8 H10 -> C [some (.int ((at0 : Int) + (i : Int))), some (.int wk), some (.ref l), some (.int (n : Int)), some (.ref b)] (ks.map V.int) H10 := fun H10 s10 => hC _ _ _ ⟨ks, ⟨_, rfl⟩, rfl, by omega, s10⟩
   refine ⟨_, rfl, _, rfl, b, _, _, _, rfl, rfl, SqT.of hb9.book, rfl, _, rfl, tm, _, _, _, rfl, rfl, SqT.of hb9.meets, atk, _, rfl, r.1, _, rfl, SqT.of hrow, (fun z => by have := z.2; revert this; show HT.sIx 4 4 (some 2) = 4 -> False; decide), fun t1 ht1 => ?_⟩
   rw [show cutV [V.int r.2.lo, V.int r.2.hi, V.int r.2.t, V.int r.2.m] none (some 2) = [V.int r.2.lo, V.int r.2.hi] from rfl]
   have s10 := yt (o := HO.tup [V.int r.2.lo, V.int r.2.hi]) ht1
   refine ⟨t1, [V.int r.2.lo, V.int r.2.hi], rfl, .inr (SqT.of yn), rfl, rfl, _, rfl, iteB (fun c => ?_) (fun c => iteB0 rfl (no _ (sm.trans s10)))⟩
   have hb10 := hb9.same s10
   have hrow2 := s10 _ _ hrow
   have sm10 := sm.trans s10
   have hdk : (upd H9 t1 (HO.tup [V.int r.2.lo, V.int r.2.hi])) g.1 = some (.dK (kvV g.2)) := sm10 _ _ (hd8 g gm)
   have hl10 := sm10 _ _ hl8
   generalize upd H9 t1 (HO.tup [V.int r.2.lo, V.int r.2.hi]) = H10 at s10 hb10 hrow2 sm10 hdk hl10 ⊢
   refine ⟨_, rfl, b, _, _, _, rfl, rfl, SqT.of hb10.book, rfl, _, rfl, tm, _, _, _, rfl, rfl, SqT.of hb10.meets, atk, r.1, _, _, _, rfl, rfl, SqT.of hrow2, rfl, _, rfl, _, rfl, l, _, _, _, rfl, rfl, SqL.of hl10, at1, _, rfl, g.1, V.int tk, rfl, .inl ⟨_, Sum.inl wk, .inl hdk, rfl, by rw [xx, etk]; rfl⟩, _, _, rfl, rfl, _, rfl, iteB (fun c => ?_) (fun c => no _ sm10)⟩
   exact ⟨_, rfl, hC _ _ _ ⟨ks ++ [(at0 : Int) + (i : Int)], ⟨_, rfl⟩, by rw [zL]; rfl, by rw [zT]; show _ + 1 <= _; omega, sm10⟩⟩
  rintro τ acc H9 ⟨ks, ⟨t0, rfl⟩, rfl, lk, sm⟩ lr hlr
  rw [ln] at lk
  have G9 := (G8.same sm).new (o := HO.lst (ks.map V.int)) hlr
  have nlr : lr ≠ p := (G8.same sm).2.ne hlr
  have kr : upd H9 lr (HO.lst (ks.map V.int)) lr = some (.lst (ks.map V.int)) := yn
  generalize upd H9 lr (HO.lst (ks.map V.int)) = HA at G9 kr ⊢
  rcases wd with ⟨gv, rfl⟩ | rfl
  rotate_left
  ·exact ⟨_, rfl, rfl, _, rfl, iteB1 rfl ⟨_, rfl, _, rfl, _, rfl, by show 3 <= sizeLine; omega, fun t ht => q (.ref t) (.drop n wk) _ (G9.new ht) ⟨t, rfl, yn⟩⟩⟩
  refine ⟨_, rfl, rfl, _, rfl, iteB0 (by cases gv <;> rfl) ?_⟩
  refine ⟨_, rfl, by show 0 <= sizeLine; omega, fun lz hlz => ?_⟩
  have GC := G9.new (o := HO.lst []) hlz
  have kz : upd HA lz (HO.lst []) lz = some (.lst []) := yn
  have krC := yt (o := HO.lst []) hlz _ _ kr
  generalize upd HA lz (HO.lst []) = HC at GC kz krC ⊢
  obtain ⟨hbC, hlC, _⟩ := wild HC GC
  refine ⟨0, lr, lz, _, _, fun _ => true, decide (ks = []), by decide, rfl, rfl, .inl ⟨SqL.of krC, SqL.of kz⟩, ?_, (fun i x y hx hy => by simp at hy), _, rfl, iteB (fun c => ?_) (fun c => ?_)⟩
  ·cases ks with
   | nil => rfl
   | cons x xs => simp
  ·exact ⟨_, rfl, _, rfl, _, rfl, l, _, rfl, .inl (SqL.of hlC), p, b, _, rooms, tr, tm, ps, rfl, by omega, by rw [zA]; omega, hbC, rm2, n60, GC.2, fun y d H3 g3 hd => q y d H3 (GC.trans g3) hd⟩
  have nk : ks ≠ [] := of_decide_eq_false c
  have lk0 : 0 < ks.length := List.length_pos_iff.mpr nk
  refine ⟨_, rfl, _, rfl, _, rfl, p, 3, rfl, by decide, by decide, GC.2, fun d3 HD y0 y1 gD => ?_⟩
  have krD := gD.1 _ _ nlr krC
  obtain ⟨v, av, mv⟩ := atI_ex (xs := ks.map V.int) (i := if (((ks.map V.int).length : Nat) : Int) - 1 < d3 then (((ks.map V.int).length : Nat) : Int) - 1 else d3) (by rw [zA]; split <;> omega) (by rw [zA]; split <;> omega)
  obtain ⟨mk, _, rfl⟩ := zQ.mp mv
  exact ⟨_, rfl, lr, _, rfl, .inl (SqL.of krD), _, _, rfl, rfl, _, _, rfl, lr, _, _, _, rfl, rfl, SqL.of krD, av, _, rfl, _, rfl, by show 4 <= sizeLine; omega, fun t ht => q (.ref t) (.pass gv mk n wk) _ ((GC.trans gD).new ht) ⟨t, rfl, yn⟩⟩
theorem sc__law_noted : FnScope ["_law_book_here", "_law_holders", "_law_deed", "_law_meeting"] ["_law_book_here", "_law_holders", "_law_deed"] (defScope s__law_noted) := ⟨rfl, rfl, rfl, by decide +kernel, rfl, by decide +kernel, by decide +kernel⟩
theorem ok__law_noted (T : Tx K mg a) : FnOk P w K mg base CX0 1 a.a__law_noted a.d__law_noted ["_law_book_here", "_law_holders", "_law_deed"] (spNoted) := by
 refine T.F__law_noted.ok sc__law_noted (fun vs H Q E h => ?_) (fun cdv A outer s H vs Q E hr h => ?_)
 ·obtain ⟨_, _, _, _, _, _, _, _, _, _, _, rfl, _⟩ := h; rfl
 ·have nd := sc__law_noted.nd
  have hu := hr.units
  obtain ⟨b, l, y, d, gs, rooms, tr, tm, ps, n, g, rfl, hb, gd, hl, ⟨p, rfl, hd⟩, en, hg, g9, hc, q⟩ := h
  refine ⟨_, (yw (xC (xL (xA xg (xD (xH rfl) (pv 2) yq (fun _ _ => rfl)) xh (nomark _)) (yw (xC (xX (pe_bm PySem.F.plainAttrs_dict PySem.F.slot_dict_pop PySem.F.type_dict_pop mt_dpop (xD (xG rfl) (pv 1) (xD (xH rfl) (pv 2) yq (fun _ _ => rfl)) (fun _ _ => rfl)) (yl (yo (xD (xH rfl) (pv 2) yq (fun _ _ => rfl)) yu rfl)))) (xK ps_retN))) xE) (xC (xB (i := 3) nd rfl (by first | exact Or.inl rfl | exact Or.inr rfl) (xD (xH rfl) (xD (xH rfl) (pv 0) yq (fun _ _ => rfl)) (xD (xH rfl) (pv 2) yq (fun _ _ => rfl)) (fun _ _ => rfl))) (xC (ps_dput (Nat.lt_of_le_of_lt (Nat.add_le_add_left (by decide) _) hu) (xD (xG rfl) (pv 1) (xD (xH rfl) (pv 2) yq (fun _ _ => rfl)) (fun _ _ => rfl)) (xI op_sub (xI xV (xD (xH rfl) (pv 3) yq (fun _ _ => rfl)) (xD (xH rfl) (pv 3) yq (fun _ _ => rfl))) (xD (xH rfl) (pv 2) yq (fun _ _ => rfl))) (xD (xH rfl) (pv 3) yq (fun _ _ => rfl)) rfl) (xK (xL (xA xg (xD (xH rfl) (pv 2) yq (fun _ _ => rfl)) xh (nomark _)) (yw (xK (xX (pe_bm PySem.F.plainAttrs_dict PySem.F.slot_dict_pop PySem.F.type_dict_pop mt_dpop (xD (xG rfl) (pv 1) (xD (xH rfl) (pv 2) yq (fun _ _ => rfl)) (fun _ _ => rfl)) (yl (yo (xD (xH rfl) (pv 2) yq (fun _ _ => rfl)) yu rfl)))))) xE)))))), ?_⟩
  have line := line9
  have hg1 := hl.2 g (zD hg)
  have at1 : atI (gs.map fun g => V.ref g.1) (n : Int) = some (V.ref g.1) := xM (by rw [zC, hg]; rfl)
  cases d with
  | drop l0 w0 =>
   obtain rfl : l0 = (n : Int) := en
   obtain ⟨v, ev⟩ := zx.mp hc
   refine ⟨_, rfl, p, _, _, _, rfl, rfl, SqT.of hd, rfl, rfl, _, rfl, iteB1 rfl ?_⟩
   refine ⟨_, rfl, _, rfl, p, _, _, _, rfl, rfl, SqT.of hd, rfl, l, _, _, _, rfl, rfl, SqL.of hl.1, at1, .inr (.inr (.inl ⟨rfl, .inl ⟨_, hg1⟩⟩)), _, rfl, p, _, _, _, rfl, rfl, SqT.of hd, rfl, g.1, _, Sum.inl w0, _, rfl, rfl, hg1, (by rw [xx, ev]; rfl), ?_⟩
   rw [dropK_kv]
   exact q _ But.set yn
  | pass gv m l0 w0 =>
   obtain ⟨m, M, rfl, hM, hw, is⟩ := hc
   obtain rfl : l0 = (n : Int) := en
   obtain ⟨p0, hp⟩ : ∃ p0, ps[m]? = some p0 := ⟨_, zE (by have := (zB.mp hM).1; simpa using this)⟩
   have eM : p0.2 = M := by rw [zC, hp] at hM; exact Option.some.inj hM
   subst eM
   have hrow : H p0.1 = some (.tup p0.2.vs) := hb.rows p0 (zD hp)
   have atm : atI (ps.map fun a => V.ref a.1) (m : Int) = some (V.ref p0.1) := xM (by rw [zC, hp]; rfl)
   have hlt := gd.each p0.2 (zD hM)
   have eo : p0.2.lo + p0.2.hi - w0 = othI p0.2 w0 := by unfold othI; split <;> omega
   have kn : kvNext (ps.map (·.2)) g.2 (.pass gv (m : Int) (n : Int) w0) = if gv = true then kvdel (kvput g.2 (othI p0.2 w0) p0.2.t) w0 else kvput g.2 (othI p0.2 w0) p0.2.t := by
    unfold kvNext; dsimp only; rw [zF, hM]
   rw [kn] at q
   refine ⟨_, rfl, p, _, _, _, rfl, rfl, SqT.of hd, rfl, rfl, _, rfl, iteB0 (by cases gv <;> rfl) ?_⟩
   refine ⟨_, rfl, b, _, _, _, rfl, rfl, SqT.of hb.book, rfl, _, rfl, p, _, _, _, rfl, rfl, SqT.of hd, rfl, tm, _, _, _, rfl, rfl, SqT.of hb.meets, atm, ?_⟩
   refine ⟨_, rfl, p0.1, _, _, _, rfl, rfl, SqT.of hrow, rfl, _, rfl, _, rfl, p, _, _, _, rfl, rfl, SqT.of hd, rfl, l, _, _, _, rfl, rfl, SqL.of hl.1, at1, _, rfl, p0.1, _, _, _, rfl, rfl, SqT.of hrow, rfl, _, rfl, p0.1, _, _, _, rfl, rfl, SqT.of hrow, rfl, _, _, rfl, rfl, _, rfl, p, _, _, _, rfl, rfl, SqT.of hd, rfl, _, _, rfl, rfl, g.1, _, rfl, .inl ⟨_, Sum.inl (othI p0.2 w0), hg1, (by show V.int (p0.2.lo + p0.2.hi - w0) = V.int (othI p0.2 w0); rw [eo]), (by unfold kvV; rw [zA]; omega), rfl⟩, ?_⟩
   rw [putK_kv]
   have b1 : But g.1 H (upd H g.1 (HO.dK (kvV (kvput g.2 (othI p0.2 w0) p0.2.t)))) := But.set
   have hg2 : upd H g.1 (HO.dK (kvV (kvput g.2 (othI p0.2 w0) p0.2.t))) g.1 = some (.dK (kvV (kvput g.2 (othI p0.2 w0) p0.2.t))) := yn
   have hd2 := b1 _ _ (xU hd hg1 (by intro z; cases z)) hd
   have hl2 := b1 _ _ (xU hl.1 hg1 (by intro z; cases z)) hl.1
   generalize upd H g.1 (HO.dK (kvV (kvput g.2 (othI p0.2 w0) p0.2.t))) = H1 at b1 hg2 hd2 hl2 ⊢
   refine ⟨_, rfl, p, _, _, _, rfl, rfl, SqT.of hd2, rfl, rfl, _, rfl, ?_⟩
   cases gv with
   | false => exact iteB0 rfl (q H1 b1 hg2)
   | true =>
    obtain ⟨v, ev⟩ : ∃ v, kvget (kvput g.2 (othI p0.2 w0) p0.2.t) w0 = some v := by
     rw [kvget_put]
     split
     ·exact ⟨_, rfl⟩
     ·exact zx.mp is
    refine iteB1 rfl ⟨_, rfl, _, rfl, p, _, _, _, rfl, rfl, SqT.of hd2, rfl, l, _, _, _, rfl, rfl, SqL.of hl2, at1, .inr (.inr (.inl ⟨rfl, .inl ⟨_, hg2⟩⟩)), _, rfl, p, _, _, _, rfl, rfl, SqT.of hd2, rfl, g.1, _, Sum.inl w0, _, rfl, rfl, hg2, (by rw [xx, ev]; rfl), ?_⟩
    rw [dropK_kv]
    exact q _ (b1.trans But.set) yn
theorem sc__law_does : FnScope ["_law_trip", "_law_deed", "_law_caught", "_law_told_here", "e", "_law_kinds", "_law_other"] ["_law_trip", "_law_deed"] (defScope s__law_does) := ⟨rfl, rfl, rfl, by decide +kernel, rfl, by decide +kernel, by decide +kernel⟩
theorem ok__law_does (T : Tx K mg a) : FnOk P w K mg base CX0 6 a.a__law_does a.d__law_does ["_law_trip", "_law_deed"] (spDoes a.c_Trip) := by
 have G_Trip_do := @ok_Trip_do P w _ _ base _ T
 refine T.F__law_does.ok sc__law_does (fun vs H Q E h => ?_) (fun cdv A outer s H vs Q E hr h => ?_)
 ·obtain ⟨_, _, _, _, _, _, _, rfl, _⟩ := h; rfl
 ·have nd := sc__law_does.nd
  have hu := hr.units
  obtain ⟨t, y, rooms, tr, tm, ps, n0, rfl, k, n2, h⟩ := h
  refine ⟨_, (yw (xC (xB (i := 2) nd rfl (by first | exact Or.inl rfl | exact Or.inr rfl) pe_non) (xC (xB (i := 3) nd rfl (by first | exact Or.inl rfl | exact Or.inr rfl) pe_non) (xC (ps_tryAs (i := 4) rfl (psx_setMeth (i := 3) (pv 0) T.L_Trip T.M_Trip_do G_Trip_do (hr.mono (by decide)) T.i_Trip_do .nil nd rfl (by first | exact Or.inl rfl | exact Or.inr rfl) (yl (yo (pv 1) yu rfl))) rfl rfl rfl T.m_MeetError nd rfl rfl (fun _ => (yw (xK (xB (i := 2) nd rfl (by first | exact Or.inl rfl | exact Or.inr rfl) (pv 4)))))) (xC (xL (pt_cmp (pc_isN (pv 2))) (yw (xK (xJ (xD (xG rfl) (xS (yl (yo yq (yo yq yu rfl) rfl))) (pe_callTy (call_int1) (by rfl) T.b_int PyProof.Rows.boot_int (yl (yo (pe_cmp (pc_isN (pv 3))) yu rfl))) (fun _ _ => rfl))))) xE) (xC (xB (i := 5) nd rfl (by first | exact Or.inl rfl | exact Or.inr rfl) (xS (yl (yo (yz (wE rfl) (by rfl) T.b_isinstance zU (yl (yo (pv 2) (yo (xZ (v := V.ref a.c_NoDeed) (by rfl) T.m_NoDeed rfl) yu rfl) rfl))) (yo (yz (wE rfl) (by rfl) T.b_isinstance zU (yl (yo (pv 2) (yo (xZ (v := V.ref a.c_NoMeeting) (by rfl) T.m_NoMeeting rfl) yu rfl) rfl))) yu rfl) rfl)))) (xC (xB (i := 5) nd rfl (by first | exact Or.inl rfl | exact Or.inr rfl) (xI op_cat (pv 5) (xS (yl (yo (yz (wE rfl) (by rfl) T.b_isinstance zU (yl (yo (pv 2) (yo (xZ (v := V.ref a.c_NoLetter) (by rfl) T.m_NoLetter rfl) yu rfl) rfl))) (yo (yz (wE rfl) (by rfl) T.b_isinstance zU (yl (yo (pv 2) (yo (xZ (v := V.ref a.c_NoWalker) (by rfl) T.m_NoWalker rfl) yu rfl) rfl))) yu rfl) rfl))))) (xC (xB (i := 5) nd rfl (by first | exact Or.inl rfl | exact Or.inr rfl) (xI op_cat (pv 5) (xS (yl (yo (yz (wE rfl) (by rfl) T.b_isinstance zU (yl (yo (pv 2) (yo (xZ (v := V.ref a.c_NotThere) (by rfl) T.m_NotThere rfl) yu rfl) rfl))) (yo (yz (wE rfl) (by rfl) T.b_isinstance zU (yl (yo (pv 2) (yo (xZ (v := V.ref a.c_HasIt) (by rfl) T.m_HasIt rfl) yu rfl) rfl))) yu rfl) rfl))))) (xC (xB (i := 5) nd rfl (by first | exact Or.inl rfl | exact Or.inr rfl) (xI op_cat (pv 5) (xS (yl (yo (yz (wE rfl) (by rfl) T.b_isinstance zU (yl (yo (pv 2) (yo (xZ (v := V.ref a.c_NoPass) (by rfl) T.m_NoPass rfl) yu rfl) rfl))) (yo (yz (wE rfl) (by rfl) T.b_isinstance zU (yl (yo (pv 2) (yo (xZ (v := V.ref a.c_NoRoom) (by rfl) T.m_NoRoom rfl) yu rfl) rfl))) yu rfl) rfl))))) (xC (xB (i := 6) nd rfl (by first | exact Or.inl rfl | exact Or.inr rfl) (yz (call_isXT rfl) (by rfl) T.b_isinstance zU (yl (yo (pv 2) (yo (xq (yl (yo (xZ (v := V.ref a.c_NoBook) (by rfl) T.m_NoBook rfl) (yo (xZ (v := V.ref a.c_NoRule) (by rfl) T.m_NoRule rfl) (yo (xZ (v := V.ref a.c_TooMany) (by rfl) T.m_TooMany rfl) (yo (xZ (v := V.ref a.c_NoDay) (by rfl) T.m_NoDay rfl) (yo (xZ (v := V.ref a.c_NoClaim) (by rfl) T.m_NoClaim rfl) (yo (xZ (v := V.ref a.c_NoText) (by rfl) T.m_NoText rfl) (yo (xZ (v := V.ref a.c_NoRow) (by rfl) T.m_NoRow rfl) (yo (xZ (v := V.ref a.c_NoName) (by rfl) T.m_NoName rfl) (yo (xZ (v := V.ref a.c_Twice) (by rfl) T.m_Twice rfl) yu rfl) rfl) rfl) rfl) rfl) rfl) rfl) rfl) rfl))) yu rfl) rfl)))) (xC (xL (PW.pt (pw_or (pt_val (pv 6)) (pw_or (pt_not (pt_val (yz (wE rfl) (by rfl) T.b_isinstance zU (yl (yo (pv 2) (yo (pe_bltn (v := V.ty "ValueError") rfl T.b_ValueError PyProof.Rows.Boot.«ValueError» rfl) yu rfl) rfl))))) (pw_or1 (xA op_ne (pe_bm zX PySem.F.slot_list_count PySem.F.type_list_count (mt_count rfl (by exact hu)) (pv 5) (yl (yo pe_bl yu rfl))) yq (nomark _)))))) (yw (xK (xJ yq))) xE) (xK (xJ (pe_bm zX PySem.F.slot_list_index PySem.F.type_list_index (mt_index rfl (by exact hu)) (pv 5) (yl (yo pe_bl yu rfl)))))))))))))))), ?_⟩
  have line := line9
  rcases h with ⟨d, hd, q1, q2⟩ | ⟨p, xs, rfl, hp, q⟩
  ·refine ⟨_, rfl, t.x, t.dx, _, rfl, k.at_.ins, rfl, _, rfl, t, y, rooms, tr, tm, ps, n0, rfl, k, n2, .inl ⟨d, hd, fun c H1 kp k1 => ?_, fun c H1 s1 => ?_⟩⟩
   ·refine ⟨_, rfl, _, rfl, iteB1 rfl ⟨by show 2 <= sizeLine; omega, fun l1 hl1 => ⟨_, rfl, .inr ⟨_, rfl, l1, _, _, _, rfl, rfl, SqL.of yn, rfl, ?_⟩⟩⟩⟩
    have s1 := yt (o := HO.lst [V.int 9, V.int 8]) hl1
    exact q1 c _ (kp.trans (Keeps.same s1)) (k1.same s1)
   ·have cl := codeT_lt c
    replace q2 := q2 c
    generalize codeT rooms (ps.map (·.2)) t d = nn at cl q2 ⊢
    have xc := xcB.at T.f_xc (n := nn) cl
    refine ⟨xc.1, _, rfl, fun e he => ?_⟩
    have s2 := s1.trans (yt (o := excO e (XC.of ⟨a.c_NoDeed, a.c_NoMeeting, a.c_NoLetter, a.c_NoWalker, a.c_NotThere, a.c_HasIt, a.c_NoPass, a.c_NoRoom⟩ nn)) he)
    have he2 : upd H1 e (excO e (XC.of ⟨a.c_NoDeed, a.c_NoMeeting, a.c_NoLetter, a.c_NoWalker, a.c_NotThere, a.c_HasIt, a.c_NoPass, a.c_NoRoom⟩ nn)) e = some (excO e (XC.of ⟨a.c_NoDeed, a.c_NoMeeting, a.c_NoLetter, a.c_NoWalker, a.c_NotThere, a.c_HasIt, a.c_NoPass, a.c_NoRoom⟩ nn)) := yn
    generalize upd H1 e (excO e (XC.of ⟨a.c_NoDeed, a.c_NoMeeting, a.c_NoLetter, a.c_NoWalker, a.c_NotThere, a.c_HasIt, a.c_NoPass, a.c_NoRoom⟩ nn)) = H2 at s2 he2 ⊢
    refine ⟨_, rfl, _, rfl, _, rfl, iteB0 rfl ⟨_, rfl, e, _, _, _, rfl, he2, xc.2.2.2.1, rfl, xc.2.2.2.2 0 (by decide), _, rfl, e, _, _, _, rfl, he2, xc.2.2.2.1, rfl, xc.2.2.2.2 1 (by decide), by show 2 <= sizeLine; omega, fun l1 hl1 => ?_⟩⟩
    have s3 := s2.trans (yt (o := HO.lst [V.bl (nn == 0), V.bl (nn == 1)]) hl1)
    have he3 := yt (o := HO.lst [V.bl (nn == 0), V.bl (nn == 1)]) hl1 _ _ he2
    have k3 : upd H2 l1 (HO.lst [V.bl (nn == 0), V.bl (nn == 1)]) l1 = some (.lst [V.bl (nn == 0), V.bl (nn == 1)]) := yn
    generalize upd H2 l1 (HO.lst [V.bl (nn == 0), V.bl (nn == 1)]) = H3 at s3 he3 k3 ⊢
    refine ⟨_, rfl, _, rfl, e, _, _, _, rfl, he3, xc.2.2.2.1, rfl, xc.2.2.2.2 2 (by decide), _, rfl, e, _, _, _, rfl, he3, xc.2.2.2.1, rfl, xc.2.2.2.2 3 (by decide), by show 2 <= sizeLine; omega, fun lx0 hlx0 => ⟨l1, lx0, _, _, rfl, rfl, yt hlx0 _ _ k3, yn, by show 4 <= sizeLine; omega, fun l2 hl2 => ?_⟩⟩
    have sX := (yt (o := HO.lst [V.bl (nn == 2), V.bl (nn == 3)]) hlx0).trans (yt (o := HO.lst [V.bl (nn == 0), V.bl (nn == 1), V.bl (nn == 2), V.bl (nn == 3)]) hl2)
    have s4 := s3.trans sX
    have he4 := sX _ _ he3
    have k4 : upd (upd H3 lx0 (HO.lst [V.bl (nn == 2), V.bl (nn == 3)])) l2 (HO.lst [V.bl (nn == 0), V.bl (nn == 1), V.bl (nn == 2), V.bl (nn == 3)]) l2 = some (.lst [V.bl (nn == 0), V.bl (nn == 1), V.bl (nn == 2), V.bl (nn == 3)]) := yn
    change tSeq _ _ _ _ (upd (upd H3 lx0 (HO.lst [V.bl (nn == 2), V.bl (nn == 3)])) l2 (HO.lst [V.bl (nn == 0), V.bl (nn == 1), V.bl (nn == 2), V.bl (nn == 3)]))
    generalize upd (upd H3 lx0 (HO.lst [V.bl (nn == 2), V.bl (nn == 3)])) l2 (HO.lst [V.bl (nn == 0), V.bl (nn == 1), V.bl (nn == 2), V.bl (nn == 3)]) = H4 at s4 he4 k4 ⊢
    clear sX
    refine ⟨_, rfl, _, rfl, e, _, _, _, rfl, he4, xc.2.2.2.1, rfl, xc.2.2.2.2 4 (by decide), _, rfl, e, _, _, _, rfl, he4, xc.2.2.2.1, rfl, xc.2.2.2.2 5 (by decide), by show 2 <= sizeLine; omega, fun lx1 hlx1 => ⟨l2, lx1, _, _, rfl, rfl, yt hlx1 _ _ k4, yn, by show 6 <= sizeLine; omega, fun l3 hl3 => ?_⟩⟩
    have sX := (yt (o := HO.lst [V.bl (nn == 4), V.bl (nn == 5)]) hlx1).trans (yt (o := HO.lst [V.bl (nn == 0), V.bl (nn == 1), V.bl (nn == 2), V.bl (nn == 3), V.bl (nn == 4), V.bl (nn == 5)]) hl3)
    have s5 := s4.trans sX
    have he5 := sX _ _ he4
    have k5 : upd (upd H4 lx1 (HO.lst [V.bl (nn == 4), V.bl (nn == 5)])) l3 (HO.lst [V.bl (nn == 0), V.bl (nn == 1), V.bl (nn == 2), V.bl (nn == 3), V.bl (nn == 4), V.bl (nn == 5)]) l3 = some (.lst [V.bl (nn == 0), V.bl (nn == 1), V.bl (nn == 2), V.bl (nn == 3), V.bl (nn == 4), V.bl (nn == 5)]) := yn
    change tSeq _ _ _ _ (upd (upd H4 lx1 (HO.lst [V.bl (nn == 4), V.bl (nn == 5)])) l3 (HO.lst [V.bl (nn == 0), V.bl (nn == 1), V.bl (nn == 2), V.bl (nn == 3), V.bl (nn == 4), V.bl (nn == 5)]))
    generalize upd (upd H4 lx1 (HO.lst [V.bl (nn == 4), V.bl (nn == 5)])) l3 (HO.lst [V.bl (nn == 0), V.bl (nn == 1), V.bl (nn == 2), V.bl (nn == 3), V.bl (nn == 4), V.bl (nn == 5)]) = H5 at s5 he5 k5 ⊢
    clear sX
    refine ⟨_, rfl, _, rfl, e, _, _, _, rfl, he5, xc.2.2.2.1, rfl, xc.2.2.2.2 6 (by decide), _, rfl, e, _, _, _, rfl, he5, xc.2.2.2.1, rfl, xc.2.2.2.2 7 (by decide), by show 2 <= sizeLine; omega, fun lx2 hlx2 => ⟨l3, lx2, _, _, rfl, rfl, yt hlx2 _ _ k5, yn, by show 8 <= sizeLine; omega, fun l4 hl4 => ?_⟩⟩
    have sX := (yt (o := HO.lst [V.bl (nn == 6), V.bl (nn == 7)]) hlx2).trans (yt (o := HO.lst [V.bl (nn == 0), V.bl (nn == 1), V.bl (nn == 2), V.bl (nn == 3), V.bl (nn == 4), V.bl (nn == 5), V.bl (nn == 6), V.bl (nn == 7)]) hl4)
    have s6 := s5.trans sX
    have he6 := sX _ _ he5
    have k6 : upd (upd H5 lx2 (HO.lst [V.bl (nn == 6), V.bl (nn == 7)])) l4 (HO.lst [V.bl (nn == 0), V.bl (nn == 1), V.bl (nn == 2), V.bl (nn == 3), V.bl (nn == 4), V.bl (nn == 5), V.bl (nn == 6), V.bl (nn == 7)]) l4 = some (.lst [V.bl (nn == 0), V.bl (nn == 1), V.bl (nn == 2), V.bl (nn == 3), V.bl (nn == 4), V.bl (nn == 5), V.bl (nn == 6), V.bl (nn == 7)]) := yn
    change tSeq _ _ _ _ (upd (upd H5 lx2 (HO.lst [V.bl (nn == 6), V.bl (nn == 7)])) l4 (HO.lst [V.bl (nn == 0), V.bl (nn == 1), V.bl (nn == 2), V.bl (nn == 3), V.bl (nn == 4), V.bl (nn == 5), V.bl (nn == 6), V.bl (nn == 7)]))
    generalize upd (upd H5 lx2 (HO.lst [V.bl (nn == 6), V.bl (nn == 7)])) l4 (HO.lst [V.bl (nn == 0), V.bl (nn == 1), V.bl (nn == 2), V.bl (nn == 3), V.bl (nn == 4), V.bl (nn == 5), V.bl (nn == 6), V.bl (nn == 7)]) = H6 at s6 he6 k6 ⊢
    clear sX
    refine ⟨_, rfl, by show 9 <= _; omega, fun t1 ht1 => ⟨e, _, t1, _, false, rfl, yt ht1 _ _ he6, xc.2.2.2.1, SqT.of yn, rfl, xc.2.2.1, ?_⟩⟩
    have s7 := s6.trans (yt (o := HO.tup [V.ref a.c_NoBook, V.ref a.c_NoRule, V.ref a.c_TooMany, V.ref a.c_NoDay, V.ref a.c_NoClaim, V.ref a.c_NoText, V.ref a.c_NoRow, V.ref a.c_NoName, V.ref a.c_Twice]) ht1)
    have he7 := yt (o := HO.tup [V.ref a.c_NoBook, V.ref a.c_NoRule, V.ref a.c_TooMany, V.ref a.c_NoDay, V.ref a.c_NoClaim, V.ref a.c_NoText, V.ref a.c_NoRow, V.ref a.c_NoName, V.ref a.c_Twice]) ht1 _ _ he6
    have k7 := yt (o := HO.tup [V.ref a.c_NoBook, V.ref a.c_NoRule, V.ref a.c_TooMany, V.ref a.c_NoDay, V.ref a.c_NoClaim, V.ref a.c_NoText, V.ref a.c_NoRow, V.ref a.c_NoName, V.ref a.c_Twice]) ht1 _ _ k6
    generalize upd H6 t1 (HO.tup [V.ref a.c_NoBook, V.ref a.c_NoRule, V.ref a.c_TooMany, V.ref a.c_NoDay, V.ref a.c_NoClaim, V.ref a.c_NoText, V.ref a.c_NoRow, V.ref a.c_NoName, V.ref a.c_Twice]) = H7 at s7 he7 k7 ⊢
    refine ⟨_, rfl, _, rfl, iteB0 rfl ⟨_, rfl, e, _, _, _, rfl, he7, xc.2.2.2.1, rfl, xc.2.1, _, rfl, iteB0 rfl ?_⟩⟩
    refine ⟨_, rfl, .inl ⟨rfl, _, SqL.of k7⟩, 0, l4, kindsL nn, _, fun u => decide (u = V.bl true), by decide, rfl, rfl, SqL.of k7, kinds_eqv, rfl, _, rfl, iteB0 (by rw [kinds_count nn cl]; rfl) ?_⟩
    refine ⟨_, rfl, .inl ⟨rfl, _, SqL.of k7⟩, 0, l4, kindsL nn, _, fun u => decide (u = V.bl true), nn, _, by decide, rfl, rfl, SqL.of k7, kinds_eqv, kinds_at nn cl, rfl, fun m hm w0 hw => (by rw [kinds_no nn cl m hm] at hw; cases hw; rfl), (by have := cl; omega), ?_⟩
    exact q2 _ s7
  ·refine ⟨_, rfl, t.x, t.dx, _, rfl, k.at_.ins, rfl, _, rfl, t, _, rooms, tr, tm, ps, n0, rfl, k, n2, .inr ⟨p, xs, rfl, hp, ?_⟩⟩
   show PySem.W.exmOne _ (Value.ref (XC.of ⟨a.c_NoDeed, a.c_NoMeeting, a.c_NoLetter, a.c_NoWalker, a.c_NotThere, a.c_HasIt, a.c_NoPass, a.c_NoRoom⟩ 0)) _ = some true /\ ∃ C, Value.ref (XC.of ⟨a.c_NoDeed, a.c_NoMeeting, a.c_NoLetter, a.c_NoWalker, a.c_NotThere, a.c_HasIt, a.c_NoPass, a.c_NoRoom⟩ 0) = Value.ref C /\ _
   have xc := xcB.at T.f_xc (n := 0) (by decide : 0 < 8)
   refine ⟨xc.1, _, rfl, fun e he => ?_⟩
   have s2 := (Same.refl H).trans (yt (o := excO e (XC.of ⟨a.c_NoDeed, a.c_NoMeeting, a.c_NoLetter, a.c_NoWalker, a.c_NotThere, a.c_HasIt, a.c_NoPass, a.c_NoRoom⟩ 0)) he)
   have he2 : upd H e (excO e (XC.of ⟨a.c_NoDeed, a.c_NoMeeting, a.c_NoLetter, a.c_NoWalker, a.c_NotThere, a.c_HasIt, a.c_NoPass, a.c_NoRoom⟩ 0)) e = some (excO e (XC.of ⟨a.c_NoDeed, a.c_NoMeeting, a.c_NoLetter, a.c_NoWalker, a.c_NotThere, a.c_HasIt, a.c_NoPass, a.c_NoRoom⟩ 0)) := yn
   generalize upd H e (excO e (XC.of ⟨a.c_NoDeed, a.c_NoMeeting, a.c_NoLetter, a.c_NoWalker, a.c_NotThere, a.c_HasIt, a.c_NoPass, a.c_NoRoom⟩ 0)) = H2 at s2 he2 ⊢
   refine ⟨_, rfl, _, rfl, _, rfl, iteB0 rfl ⟨_, rfl, e, _, _, _, rfl, he2, xc.2.2.2.1, rfl, xc.2.2.2.2 0 (by decide), _, rfl, e, _, _, _, rfl, he2, xc.2.2.2.1, rfl, xc.2.2.2.2 1 (by decide), by show 2 <= sizeLine; omega, fun l1 hl1 => ?_⟩⟩
   have s3 := s2.trans (yt (o := HO.lst [V.bl (0 == 0), V.bl (0 == 1)]) hl1)
   have he3 := yt (o := HO.lst [V.bl (0 == 0), V.bl (0 == 1)]) hl1 _ _ he2
   have k3 : upd H2 l1 (HO.lst [V.bl (0 == 0), V.bl (0 == 1)]) l1 = some (.lst [V.bl (0 == 0), V.bl (0 == 1)]) := yn
   generalize upd H2 l1 (HO.lst [V.bl (0 == 0), V.bl (0 == 1)]) = H3 at s3 he3 k3 ⊢
   refine ⟨_, rfl, _, rfl, e, _, _, _, rfl, he3, xc.2.2.2.1, rfl, xc.2.2.2.2 2 (by decide), _, rfl, e, _, _, _, rfl, he3, xc.2.2.2.1, rfl, xc.2.2.2.2 3 (by decide), by show 2 <= sizeLine; omega, fun lx0 hlx0 => ⟨l1, lx0, _, _, rfl, rfl, yt hlx0 _ _ k3, yn, by show 4 <= sizeLine; omega, fun l2 hl2 => ?_⟩⟩
   have sX := (yt (o := HO.lst [V.bl (0 == 2), V.bl (0 == 3)]) hlx0).trans (yt (o := HO.lst [V.bl (0 == 0), V.bl (0 == 1), V.bl (0 == 2), V.bl (0 == 3)]) hl2)
   have s4 := s3.trans sX
   have he4 := sX _ _ he3
   have k4 : upd (upd H3 lx0 (HO.lst [V.bl (0 == 2), V.bl (0 == 3)])) l2 (HO.lst [V.bl (0 == 0), V.bl (0 == 1), V.bl (0 == 2), V.bl (0 == 3)]) l2 = some (.lst [V.bl (0 == 0), V.bl (0 == 1), V.bl (0 == 2), V.bl (0 == 3)]) := yn
   change tSeq _ _ _ _ (upd (upd H3 lx0 (HO.lst [V.bl (0 == 2), V.bl (0 == 3)])) l2 (HO.lst [V.bl (0 == 0), V.bl (0 == 1), V.bl (0 == 2), V.bl (0 == 3)]))
   generalize upd (upd H3 lx0 (HO.lst [V.bl (0 == 2), V.bl (0 == 3)])) l2 (HO.lst [V.bl (0 == 0), V.bl (0 == 1), V.bl (0 == 2), V.bl (0 == 3)]) = H4 at s4 he4 k4 ⊢
   clear sX
   refine ⟨_, rfl, _, rfl, e, _, _, _, rfl, he4, xc.2.2.2.1, rfl, xc.2.2.2.2 4 (by decide), _, rfl, e, _, _, _, rfl, he4, xc.2.2.2.1, rfl, xc.2.2.2.2 5 (by decide), by show 2 <= sizeLine; omega, fun lx1 hlx1 => ⟨l2, lx1, _, _, rfl, rfl, yt hlx1 _ _ k4, yn, by show 6 <= sizeLine; omega, fun l3 hl3 => ?_⟩⟩
   have sX := (yt (o := HO.lst [V.bl (0 == 4), V.bl (0 == 5)]) hlx1).trans (yt (o := HO.lst [V.bl (0 == 0), V.bl (0 == 1), V.bl (0 == 2), V.bl (0 == 3), V.bl (0 == 4), V.bl (0 == 5)]) hl3)
   have s5 := s4.trans sX
   have he5 := sX _ _ he4
   have k5 : upd (upd H4 lx1 (HO.lst [V.bl (0 == 4), V.bl (0 == 5)])) l3 (HO.lst [V.bl (0 == 0), V.bl (0 == 1), V.bl (0 == 2), V.bl (0 == 3), V.bl (0 == 4), V.bl (0 == 5)]) l3 = some (.lst [V.bl (0 == 0), V.bl (0 == 1), V.bl (0 == 2), V.bl (0 == 3), V.bl (0 == 4), V.bl (0 == 5)]) := yn
   change tSeq _ _ _ _ (upd (upd H4 lx1 (HO.lst [V.bl (0 == 4), V.bl (0 == 5)])) l3 (HO.lst [V.bl (0 == 0), V.bl (0 == 1), V.bl (0 == 2), V.bl (0 == 3), V.bl (0 == 4), V.bl (0 == 5)]))
   generalize upd (upd H4 lx1 (HO.lst [V.bl (0 == 4), V.bl (0 == 5)])) l3 (HO.lst [V.bl (0 == 0), V.bl (0 == 1), V.bl (0 == 2), V.bl (0 == 3), V.bl (0 == 4), V.bl (0 == 5)]) = H5 at s5 he5 k5 ⊢
   clear sX
   refine ⟨_, rfl, _, rfl, e, _, _, _, rfl, he5, xc.2.2.2.1, rfl, xc.2.2.2.2 6 (by decide), _, rfl, e, _, _, _, rfl, he5, xc.2.2.2.1, rfl, xc.2.2.2.2 7 (by decide), by show 2 <= sizeLine; omega, fun lx2 hlx2 => ⟨l3, lx2, _, _, rfl, rfl, yt hlx2 _ _ k5, yn, by show 8 <= sizeLine; omega, fun l4 hl4 => ?_⟩⟩
   have sX := (yt (o := HO.lst [V.bl (0 == 6), V.bl (0 == 7)]) hlx2).trans (yt (o := HO.lst [V.bl (0 == 0), V.bl (0 == 1), V.bl (0 == 2), V.bl (0 == 3), V.bl (0 == 4), V.bl (0 == 5), V.bl (0 == 6), V.bl (0 == 7)]) hl4)
   have s6 := s5.trans sX
   have he6 := sX _ _ he5
   have k6 : upd (upd H5 lx2 (HO.lst [V.bl (0 == 6), V.bl (0 == 7)])) l4 (HO.lst [V.bl (0 == 0), V.bl (0 == 1), V.bl (0 == 2), V.bl (0 == 3), V.bl (0 == 4), V.bl (0 == 5), V.bl (0 == 6), V.bl (0 == 7)]) l4 = some (.lst [V.bl (0 == 0), V.bl (0 == 1), V.bl (0 == 2), V.bl (0 == 3), V.bl (0 == 4), V.bl (0 == 5), V.bl (0 == 6), V.bl (0 == 7)]) := yn
   change tSeq _ _ _ _ (upd (upd H5 lx2 (HO.lst [V.bl (0 == 6), V.bl (0 == 7)])) l4 (HO.lst [V.bl (0 == 0), V.bl (0 == 1), V.bl (0 == 2), V.bl (0 == 3), V.bl (0 == 4), V.bl (0 == 5), V.bl (0 == 6), V.bl (0 == 7)]))
   generalize upd (upd H5 lx2 (HO.lst [V.bl (0 == 6), V.bl (0 == 7)])) l4 (HO.lst [V.bl (0 == 0), V.bl (0 == 1), V.bl (0 == 2), V.bl (0 == 3), V.bl (0 == 4), V.bl (0 == 5), V.bl (0 == 6), V.bl (0 == 7)]) = H6 at s6 he6 k6 ⊢
   clear sX
   refine ⟨_, rfl, by show 9 <= _; omega, fun t1 ht1 => ⟨e, _, t1, _, false, rfl, yt ht1 _ _ he6, xc.2.2.2.1, SqT.of yn, rfl, xc.2.2.1, ?_⟩⟩
   have s7 := s6.trans (yt (o := HO.tup [V.ref a.c_NoBook, V.ref a.c_NoRule, V.ref a.c_TooMany, V.ref a.c_NoDay, V.ref a.c_NoClaim, V.ref a.c_NoText, V.ref a.c_NoRow, V.ref a.c_NoName, V.ref a.c_Twice]) ht1)
   have he7 := yt (o := HO.tup [V.ref a.c_NoBook, V.ref a.c_NoRule, V.ref a.c_TooMany, V.ref a.c_NoDay, V.ref a.c_NoClaim, V.ref a.c_NoText, V.ref a.c_NoRow, V.ref a.c_NoName, V.ref a.c_Twice]) ht1 _ _ he6
   have k7 := yt (o := HO.tup [V.ref a.c_NoBook, V.ref a.c_NoRule, V.ref a.c_TooMany, V.ref a.c_NoDay, V.ref a.c_NoClaim, V.ref a.c_NoText, V.ref a.c_NoRow, V.ref a.c_NoName, V.ref a.c_Twice]) ht1 _ _ k6
   generalize upd H6 t1 (HO.tup [V.ref a.c_NoBook, V.ref a.c_NoRule, V.ref a.c_TooMany, V.ref a.c_NoDay, V.ref a.c_NoClaim, V.ref a.c_NoText, V.ref a.c_NoRow, V.ref a.c_NoName, V.ref a.c_Twice]) = H7 at s7 he7 k7 ⊢
   refine ⟨_, rfl, _, rfl, iteB0 rfl ⟨_, rfl, e, _, _, _, rfl, he7, xc.2.2.2.1, rfl, xc.2.1, _, rfl, iteB0 rfl ?_⟩⟩
   refine ⟨_, rfl, .inl ⟨rfl, _, SqL.of k7⟩, 0, l4, kindsL 0, _, fun u => decide (u = V.bl true), by decide, rfl, rfl, SqL.of k7, kinds_eqv, rfl, _, rfl, iteB0 (by rw [kinds_count 0 (by decide : 0 < 8)]; rfl) ?_⟩
   refine ⟨_, rfl, .inl ⟨rfl, _, SqL.of k7⟩, 0, l4, kindsL 0, _, fun u => decide (u = V.bl true), 0, _, by decide, rfl, rfl, SqL.of k7, kinds_eqv, kinds_at 0 (by decide : 0 < 8), rfl, fun m hm w0 hw => (by rw [kinds_no 0 (by decide : 0 < 8) m hm] at hw; cases hw; rfl), (by have := (by decide : 0 < 8); omega), ?_⟩
   exact q _ s7
theorem sc__law_seen : FnScope ["_law_trip", "_law_book_here", "_law_many"] ["_law_trip", "_law_book_here", "_law_many"] (defScope wA) := ⟨rfl, rfl, rfl, by decide +kernel, rfl, by decide +kernel, by decide +kernel⟩
theorem ok__law_seen (T : Tx K mg a) : FnOk P w K mg base CX0 3 a.a__law_seen a.d__law_seen ["_law_trip", "_law_book_here", "_law_many"] (spSeen50 a.c_Trip) := by
 have G_Trip_having := @ok_Trip_having P w _ _ base _ T
 have G_Trip_bag := @ok_Trip_bag P w _ _ base _ T
 have G_Trip_come := @ok_Trip_come P w _ _ base _ T
 have G_Trip_done := @ok_Trip_done P w _ _ base _ T
 refine T.F__law_seen.ok sc__law_seen (fun vs H Q E h => ?_) (fun cdv A outer s H vs Q E hr h => ?_)
 ·obtain ⟨_, _, _, _, _, _, rfl, _⟩ := h; rfl
 ·have nd := sc__law_seen.nd
  have hu := hr.units
  obtain ⟨t, rooms, tr, tm, ps, n0, rfl, k, n64, q⟩ := h
  refine ⟨_, (yw (xK (xJ (xS (yl (yo (wD (own := ["_law_number"]) (caps := [0]) rfl (show CompScope ["_law_number"] [0] ["_law_trip", "_law_book_here", "_law_many"] (defScope wA) _ from ⟨rfl, by decide +kernel, by decide +kernel, by decide +kernel, by decide +kernel⟩) (xl rfl T.b_range (yl (yo (pv 2) yu rfl))) (fun _ _ _ _ => (y8 (i := 0) (show List.Nodup (["_law_number", "_law_trip"] : List Str) from by decide +kernel) rfl (by first | exact Or.inl rfl | exact Or.inr rfl))) (fun _ _ _ _ => wC) (fun _ _ _ _ => (xa (pv 1) T.L_Trip T.M_Trip_having G_Trip_having (hr.mono (by decide)) T.i_Trip_having .nil pass0 (yl (yo (pv 0) yu rfl))))) (yo (wD (own := ["_law_number"]) (caps := [0]) rfl (show CompScope ["_law_number"] [0] ["_law_trip", "_law_book_here", "_law_many"] (defScope wA) _ from ⟨rfl, by decide +kernel, by decide +kernel, by decide +kernel, by decide +kernel⟩) (xl rfl T.b_range (yl (yo (pv 2) yu rfl))) (fun _ _ _ _ => (y8 (i := 0) (show List.Nodup (["_law_number", "_law_trip"] : List Str) from by decide +kernel) rfl (by first | exact Or.inl rfl | exact Or.inr rfl))) (fun _ _ _ _ => wC) (fun _ _ _ _ => (xa (pv 1) T.L_Trip T.M_Trip_come G_Trip_come (hr.mono (by decide)) T.i_Trip_come .nil pass0 (yl (yo (pv 0) yu rfl))))) (yo (wD (own := ["_law_walker"]) (caps := [0]) rfl (show CompScope ["_law_walker"] [0] ["_law_trip", "_law_book_here", "_law_many"] (defScope wA) _ from ⟨rfl, by decide +kernel, by decide +kernel, by decide +kernel, by decide +kernel⟩) (xl rfl T.b_range (yl (yo (yz (y6 rfl) (by rfl) T.b_len PySem.boot_len (yl (yo (xD (xH rfl) (pv 1) yq (fun _ _ => rfl)) yu rfl))) yu rfl))) (fun _ _ _ _ => (y8 (i := 0) (show List.Nodup (["_law_walker", "_law_trip"] : List Str) from by decide +kernel) rfl (by first | exact Or.inl rfl | exact Or.inr rfl))) (fun _ _ _ _ => wC) (fun _ _ _ _ => (xa (pv 1) T.L_Trip T.M_Trip_bag G_Trip_bag (hr.mono (by decide)) T.i_Trip_bag .nil pass0 (yl (yo (pv 0) yu rfl))))) (yo (pe_meth0 (pv 0) T.L_Trip T.M_Trip_done G_Trip_done (hr.mono (by decide)) T.i_Trip_done .nil pass0) yu rfl) rfl) rfl) rfl)))))), ?_⟩
  have line := line9
  have few := k.few
  have rm := k.rm
  refine ⟨_, rfl, _, rfl, by omega, by omega, ?_⟩
  refine x6 (lo := 0) (m := t.ls.length) (fun i τ acc H5 => ∃ hq : List (Addr × List (Addr × List Int)), (∃ t0, τ = [t0, some (.ref t.x)]) /\ acc = (hq.map fun x => V.ref x.1) /\ hq.length = i /\ Same H H5 /\ ∀ (j : Nat) x kv, hq[j]? = some x -> (t.hs.map (·.2))[j]? = some kv -> HavAt (cut (fun c => H c ≠ none) H5) x kv) ⟨[], ⟨_, rfl⟩, rfl, rfl, Same.refl _, fun _ _ _ z => nomatch z⟩ (by omega) ?_ ?_ ?_
  ·rintro i τ acc H5 ⟨hq, _, rfl, e, _⟩
   rw [zA, e]; exact zG _
  ·rintro i τ acc H5 C hi ⟨hq, ⟨t0, rfl⟩, rfl, lq, s5, hv⟩ hC
   rw [yf]
   obtain ⟨h, hh, _⟩ := k.kvAt hi
   have k5 := k.same s5
   have sh := k.sh h (zD hh)
   refine ⟨_, rfl, t.x, t.dx, _, rfl, k5.at_.ins, rfl, _, rfl, t.x, t.b, t.dx, t.lL, t.lH, t.lA, t.lP, t.lD, t.ls, t.hs, t.os, t.ns, t.r, t.ds, i, h, rfl, k5.at_, hh, by omega, fun l1 qs1 H6 s6 f1 fq1 k1 kr1 pm1 pw1 => hC _ _ _ ⟨hq ++ [(l1, qs1)], ⟨_, rfl⟩, by rw [zL]; rfl, by rw [zT, lq]; rfl, s5.trans s6, fun j x kv hx hkv => ?_⟩⟩
   by_cases hj : j < hq.length
   ·rw [yB hj] at hx
    exact (hv j x kv hx hkv).same (cutN s6)
   ·rw [zg (by omega)] at hx
    obtain rfl : j = hq.length := by
     have := (zB.mp hx).1
     simp at this; omega
    rw [Nat.sub_self] at hx
    cases hx
    rw [lq, zC, hh] at hkv
    cases hkv
    exact ⟨cutI (s5.free f1) k1, fun a ha => cutI (s5.free (fq1 a ha)) (kr1 a ha), pm1, pw1⟩
  rintro τ acc HA ⟨hq, ⟨t0, rfl⟩, rfl, lq, sA, hv⟩ l1 hl1
  have sA' := yt (o := HO.lst (hq.map fun x => V.ref x.1)) hl1
  have k1 : upd HA l1 (HO.lst (hq.map fun x => V.ref x.1)) l1 = some (.lst (hq.map fun x => V.ref x.1)) := yn
  have f1 := sA.free hl1
  generalize upd HA l1 (HO.lst (hq.map fun x => V.ref x.1)) = HB at sA' k1 ⊢
  have sB := sA.trans sA'
  refine ⟨_, rfl, _, rfl, by omega, by omega, ?_⟩
  refine x6 (lo := 0) (m := t.ls.length) (fun i τ acc H5 => (∃ t0, τ = [t0, some (.ref t.x)]) /\ acc = (t.os.take i).map oV /\ H5 = HB) ⟨⟨_, rfl⟩, rfl, rfl⟩ (by omega) ?_ ?_ ?_
  ·rintro i τ acc H5 ⟨_, rfl, _⟩
   rw [zA, zq]; omega
  ·rintro i τ acc H5 C hi ⟨⟨t0, rfl⟩, rfl, rfl⟩ hC
   rw [yf]
   obtain ⟨o, ho⟩ : ∃ o, t.os[i]? = some o := ⟨_, zE (by rw [k.lo]; exact hi)⟩
   have kB := k.same sB
   exact ⟨_, rfl, t.x, t.dx, _, rfl, kB.at_.ins, rfl, _, rfl, t.x, t.b, t.dx, t.lL, t.lH, t.lA, t.lP, t.lD, t.ls, t.hs, t.os, t.ns, t.r, t.ds, i, o, rfl, kB.at_, ho, hC _ _ _ ⟨⟨_, rfl⟩, by rw [xR ho, zL]; rfl, rfl⟩⟩
  rintro τ acc H5 ⟨_, rfl, rfl⟩ l2 hl2
  rw [<- k.lo, z4]
  have sC' := yt (o := HO.lst (t.os.map oV)) hl2
  have k2 : upd H5 l2 (HO.lst (t.os.map oV)) l2 = some (.lst (t.os.map oV)) := yn
  have f2 := sB.free hl2
  generalize upd H5 l2 (HO.lst (t.os.map oV)) = HC at sC' k2 ⊢
  have sC := sB.trans sC'
  have kC := k.same sC
  refine ⟨_, rfl, t.b, _, _, _, rfl, rfl, SqT.of kC.bk.book, rfl, tr, _, rfl, .inr (SqT.of kC.bk.rooms), _, rfl, by omega, by rw [zA]; omega, ?_⟩
  refine x6 (lo := 0) (m := (rooms.map V.int).length) (fun i τ acc H6 => ∃ bq : List (Addr × List Int), (∃ t0, τ = [t0, some (.ref t.x)]) /\ acc = (bq.map fun x => V.ref x.1) /\ bq.map (·.2) = ((List.range i).map fun w : Nat => bagTo (w : Int) t.ls t.hs t.hs.length) /\ Same HC H6 /\ ∀ x ∈ bq, H x.1 = none /\ H6 x.1 = some (.lst (x.2.map V.int))) ⟨[], ⟨_, rfl⟩, rfl, rfl, Same.refl _, fun _ z => nomatch z⟩ (by rw [zA]; omega) ?_ ?_ ?_
  ·rintro i τ acc H6 ⟨bq, _, rfl, e, _⟩
   have := congrArg List.length e
   rw [zA, zA, List.length_range] at this
   rw [zA, this]; exact zG _
  ·rintro i τ acc H6 C hi ⟨bq, ⟨t0, rfl⟩, rfl, e, s6, kb⟩ hC
   rw [yf]
   have k6 := kC.same s6
   refine ⟨_, rfl, t.x, t.dx, _, rfl, k6.at_.ins, rfl, _, rfl, t.x, t.b, t.dx, t.lL, t.lH, t.lA, t.lP, t.lD, t.ls, t.hs, t.os, t.ns, t.r, t.ds, (i : Int), rfl, k6.at_, by rw [k.lh]; exact few, k.lh, fun l9 HD sD fD kD => hC _ _ _ ⟨bq ++ [(l9, _)], ⟨_, rfl⟩, by rw [zL]; rfl, by rw [zL, e, List.range_succ, zL]; rfl, s6.trans sD, fun x hx => ?_⟩⟩
   rcases zZ.mp hx with hx | hx
   ·exact ⟨(kb x hx).1, sD _ _ (kb x hx).2⟩
   ·cases zM.mp hx
    exact ⟨(sC.trans s6).free fD, kD⟩
  rintro τ acc HD ⟨bq, ⟨t0, rfl⟩, rfl, eb, sD, kb⟩ l3 hl3
  rw [zA] at eb
  have sD' := yt (o := HO.lst (bq.map fun x => V.ref x.1)) hl3
  have k3 : upd HD l3 (HO.lst (bq.map fun x => V.ref x.1)) l3 = some (.lst (bq.map fun x => V.ref x.1)) := yn
  have f3 := (sC.trans sD).free hl3
  generalize upd HD l3 (HO.lst (bq.map fun x => V.ref x.1)) = HE at sD' k3 ⊢
  have sCE := sD.trans sD'
  have kE := kC.same sCE
  refine ⟨_, rfl, t.x, t.dx, _, rfl, kE.at_.ins, rfl, t.x, t.b, t.dx, t.lL, t.lH, t.lA, t.lP, t.lD, t.ls, t.hs, t.os, t.ns, t.r, t.ds, rfl, kE.at_, fun l4 hl4 => ⟨by show 4 <= sizeLine; omega, fun s9 hs9 => ?_⟩⟩
  have sF := yt (o := HO.lst t.ds) hl4
  have k4 : upd HE l4 (HO.lst t.ds) l4 = some (.lst t.ds) := yn
  have f4 := (sC.trans sCE).free hl4
  generalize upd HE l4 (HO.lst t.ds) = HF at sF k4 hs9 ⊢
  have sG := yt (o := HO.lst [V.ref l1, V.ref l2, V.ref l3, V.ref l4]) hs9
  have k9 : upd HF s9 (HO.lst [V.ref l1, V.ref l2, V.ref l3, V.ref l4]) s9 = some (.lst [V.ref l1, V.ref l2, V.ref l3, V.ref l4]) := yn
  have f9 := ((sC.trans sCE).trans sF).free hs9
  generalize upd HF s9 (HO.lst [V.ref l1, V.ref l2, V.ref l3, V.ref l4]) = HG at sG k9 ⊢
  have sEG := sF.trans sG
  have sCG := sCE.trans sEG
  have sBG := sC'.trans sCG
  refine q s9 HG (sB.trans sBG) f9 ⟨l1, l2, l3, l4, hq, bq, cutI f9 k9, cutI f1 (sBG _ _ k1), by show _ = (t.hs.map _).length; rw [zA, lq, k.lh], fun i x kv h1 h2 => (hv i x kv h1 h2).same (cutN (sA'.trans sBG)), cutI f2 (sCG _ _ k2), cutI f3 (sEG _ _ k3), fun x hx => cutI (kb x hx).1 (sEG _ _ (sD' _ _ (kb x hx).2)), eb, cutI f4 (sG _ _ k4)⟩
theorem sc__law_told_here : FnScope ["_law_script", "_law_book_here", "_law_letters_here", "_law_trip", "_law_holders", "_law_done", "_law_seen_here", "_law_at", "_law_k", "_law_deed"] ["_law_script", "_law_book_here", "_law_letters_here"] (defScope xp) := ⟨rfl, rfl, rfl, by decide +kernel, rfl, by decide +kernel, by decide +kernel⟩
theorem ok__law_told_here (T : Tx K mg a) : FnOk P w K mg base CX0 7 a.a__law_told_here a.d__law_told_here ["_law_script", "_law_book_here", "_law_letters_here"] (spTold50 K) := by
 have G__law_purse := @ok__law_purse P w _ _ base _ T
 have G_Trip___init__ := @ok_Trip___init__ P w _ _ base _ T
 have G__law_likely := @ok__law_likely P w _ _ base _ T
 have G__law_noted := @ok__law_noted P w _ _ base _ T
 have G__law_does := @ok__law_does P w _ _ base _ T
 have G__law_seen := @ok__law_seen P w _ _ base _ T
 refine T.F__law_told_here.ok sc__law_told_here (fun vs H Q E h => ?_) (fun cdv A outer s H vs Q E hr h => ?_)
 ·obtain ⟨_, _, _, _, _, _, _, _, _, rfl, _⟩ := h; rfl
 ·have nd := sc__law_told_here.nd
  have hu := hr.units
  obtain ⟨sa, b, ll, ns, ls, rooms, tr, tm, ps, rfl, hS, hn, hll0, n41, hb, rm1, rm12, gd, q⟩ := h
  refine ⟨_, (yw (xC (xB (i := 3) nd rfl (by first | exact Or.inl rfl | exact Or.inr rfl) (pe_make T.Y_Trip G_Trip___init__ (hr.mono (by decide)) rfl T.m_Trip T.i_Trip___init__ .nil pass0 (yl (yo (pv 1) (yo (pe_callTy (call_list_of' rfl) (by rfl) T.b_list PyProof.Rows.boot_list (yl (yo (pv 2) yu rfl))) yu rfl) rfl)))) (xC (ps_setComp (ix := 4) nd rfl (by first | exact Or.inl rfl | exact Or.inr rfl) (own := ["_law_one"]) (caps := []) rfl (show CompScope ["_law_one"] [] ["_law_script", "_law_book_here", "_law_letters_here", "_law_trip", "_law_holders", "_law_done", "_law_seen_here", "_law_at", "_law_k", "_law_deed"] (defScope xp) _ from ⟨rfl, by decide +kernel, by decide +kernel, by decide +kernel, by decide +kernel⟩) (pi_list' rfl (pv 2)) (fun _ _ _ _ => (y8 (i := 0) (show List.Nodup (["_law_one"] : List Str) from by decide +kernel) rfl (by first | exact Or.inl rfl | exact Or.inr rfl))) (fun _ _ _ _ => wC) (fun _ _ _ _ => (pe_disp (pps_cons (xD (xH rfl) (pv 0) yq (fun _ _ => rfl)) (xD (xH rfl) (pv 0) yq (fun _ _ => rfl)) pps_nil) rfl rfl (by intro h; cases h) (by decide)))) (xC (xB (i := 5) nd rfl (by first | exact Or.inl rfl | exact Or.inr rfl) (xS wB)) (xC (xB (i := 6) nd rfl (by first | exact Or.inl rfl | exact Or.inr rfl) (xS (yl (yo (yx G__law_seen (hr.mono (by decide)) rfl T.m__law_seen T.k__law_seen T.i__law_seen .nil pass0 (yl (yo (pv 3) (yo (pv 1) (yo (yz (y6 rfl) (by rfl) T.b_len PySem.boot_len (yl (yo (pv 2) yu rfl))) yu rfl) rfl) rfl))) yu rfl)))) (xC (xB (i := 7) nd rfl (by first | exact Or.inl rfl | exact Or.inr rfl) yq) (xC (ps_for PassesOwn.never rfl (pi_range2 rfl T.b_range (yl (yo yq (yo (yz (call_min2 rfl) (by rfl) T.b_min PyProof.Rows.boot_min (yl (yo (yz (y6 rfl) (by rfl) T.b_len PySem.boot_len (yl (yo (pv 0) yu rfl))) (yo yq yu rfl) rfl))) yu rfl) rfl))) (y8 (i := 8) nd rfl (by first | exact Or.inl rfl | exact Or.inr rfl)) (yw (xC (xB (i := 9) nd rfl (by first | exact Or.inl rfl | exact Or.inr rfl) (yx G__law_likely (hr.mono (by decide)) rfl T.m__law_likely T.k__law_likely T.i__law_likely .nil pass0 (yl (yo (yx G__law_purse (hr.mono (by decide)) rfl T.m__law_purse T.k__law_purse T.i__law_purse .nil pass0 (yl (yo (pv 0) (yo (pv 8) yu rfl) rfl))) (yo (pv 1) (yo (pv 4) (yo (pv 7) yu rfl) rfl) rfl) rfl)))) (xK (xL (xA xg (yx G__law_does (hr.mono (by decide)) rfl T.m__law_does T.k__law_does T.i__law_does .nil pass0 (yl (yo (pv 3) (yo (pv 9) yu rfl) rfl))) yq (nomark _)) (yw (xC (xX (pe_bm zX zl zm mt_append (pv 5) (yl (yo (pv 9) yu rfl)))) (xC (xX (yx G__law_noted (hr.mono (by decide)) rfl T.m__law_noted T.k__law_noted T.i__law_noted .nil pass0 (yl (yo (pv 1) (yo (pv 4) (yo (pv 9) yu rfl) rfl) rfl)))) (xC (xL (xA op_ne (xD (xH rfl) (pv 9) yq (fun _ _ => rfl)) xh (nomark _)) (yw (xK (xB (i := 7) nd rfl (by first | exact Or.inl rfl | exact Or.inr rfl) (xD (xH rfl) (pv 9) yq (fun _ _ => rfl))))) xE) (xK (xX (pe_bm zX zl zm mt_append (pv 6) (yl (yo (yx G__law_seen (hr.mono (by decide)) rfl T.m__law_seen T.k__law_seen T.i__law_seen .nil pass0 (yl (yo (pv 3) (yo (pv 1) (yo (yz (y6 rfl) (by rfl) T.b_len PySem.boot_len (yl (yo (pv 2) yu rfl))) yu rfl) rfl) rfl))) yu rfl))))))))) xE))))) (xK (xJ (xq (yl (yo (pv 5) (yo (pv 6) yu rfl) rfl)))))))))))), ?_⟩
  have line := line9
  obtain ⟨hll, hrw⟩ := hll0
  refine ⟨_, rfl, _, rfl, ll, _, rfl, .inl (SqL.of hll), fun lh hlh x dx nx ndx nex => ?_⟩
  have s5 := yt (o := HO.lst (ls.map fun x => V.ref x.1)) hlh
  have kh : upd H lh (HO.lst (ls.map fun x => V.ref x.1)) lh = some (.lst (ls.map fun x => V.ref x.1)) := yn
  generalize upd H lh (HO.lst (ls.map fun x => V.ref x.1)) = H5 at s5 kh nx ndx ⊢
  have s6 : Same H5 (upd (upd H5 dx (.own x)) x (.ins a.c_Trip dx [])) := same_two nx ndx nex
  refine ⟨x, dx, b, lh, ls, rooms, tr, tm, ps, rfl, yn, (hb.same s5).same s6, gd, by omega, s6 _ _ kh, fun l hl => s6 _ _ (s5 _ _ (hrw l hl)), n41, fun t H7 b7 kt nt => ⟨rfl, ?_⟩⟩
  have s7 : Same H5 H7 := But.same nx (yt ndx) (But.trans But.set b7)
  have ft : ∀ c, t.own c \/ c = t.lL \/ c = t.lH -> H c = none := fun c hc => by
   rcases nt.fr c hc with z | z
   ·rw [z]; exact s5.free nx
   ·exact (s5.trans s6).free z
  have s47 := s5.trans s7
  obtain rfl := nt.ex
  clear b7 s6 s7 kh s5
  have hllA := s47 _ _ hll
  refine ⟨_, rfl, ll, rfl, ⟨_, SqL.of hllA⟩, ?_⟩
  refine comp_list (K := K) (a := ll) (xs := ls.map fun x => V.ref x.1) (fun i τ acc HB => ∃ gs : List (Addr × List (Int × Int)), (∃ t0, τ = [t0]) /\ acc = (gs.map fun g => V.ref g.1) /\ gs.map (·.2) = (ls.take i).map (fun l => [((l.2.s : Int), l.2.a)]) /\ Same H7 HB /\ (∀ g ∈ gs, H7 g.1 = none /\ HB g.1 = some (.dK (kvV g.2))) /\ (gs.map (·.1)).Nodup) ⟨[], ⟨_, rfl⟩, rfl, rfl, Same.refl _, (fun _ z => nomatch z), List.nodup_nil⟩ (by rw [zA]; omega) ?_ ?_ ?_
  ·rintro i τ acc HB ⟨gs, _, rfl, e, sB, _⟩
   exact ⟨by rw [zA]; have := congrArg List.length e; simp at this; omega, SqL.of (sB _ _ hllA)⟩
  ·rintro i v τ acc HB C hv ⟨gs, ⟨t0, rfl⟩, rfl, e, sB, kg, ng⟩ hC
   obtain ⟨l1, hl1, rfl⟩ := xO hv
   have hrow : HB l1.1 = some (.tup (letRow l1.2)) := sB _ _ (s47 _ _ (hrw l1 (zD hl1)))
   refine fun p hp => ?_
   have hrow2 := yt (o := HO.dK []) hp _ _ hrow
   refine ⟨_, rfl, l1.1, _, _, _, rfl, rfl, SqT.of hrow2, rfl, _, rfl, l1.1, _, _, _, rfl, rfl, SqT.of hrow2, rfl, yn, [(Sum.inl (l1.2.s : Int), V.int l1.2.a)], rfl, by show 1 <= 15; decide, ?_⟩
   have sC := same_twice (o1 := HO.dK []) (o2 := HO.dK (mergeK [] [(Sum.inl (l1.2.s : Int), V.int l1.2.a)])) hp
   refine hC _ _ _ ⟨gs ++ [(p, [((l1.2.s : Int), l1.2.a)])], ⟨_, rfl⟩, by rw [zL]; rfl, by rw [zL, e, xR hl1, zL]; rfl, sB.trans sC, fun g hg => ?_, ?_⟩
   ·rcases zZ.mp hg with hg | hg
    ·exact ⟨(kg g hg).1, sC _ _ (kg g hg).2⟩
    ·cases zM.mp hg
     exact ⟨sB.free hp, by rw [yn]; rfl⟩
   ·rw [zL]
    refine List.nodup_append.mpr ⟨ng, by simp, fun c hc d hd => ?_⟩
    obtain ⟨g, hg, rfl⟩ := zQ.mp hc
    cases zM.mp hd
    exact yr (kg g hg).2 hp
  rintro τ acc HB ⟨gs, ⟨t0, rfl⟩, rfl, egs, sB, kg, ng⟩ hl hhl
  rw [zA, z4] at egs
  have sC := yt (o := HO.lst (gs.map fun g => V.ref g.1)) hhl
  have khl : upd HB hl (HO.lst (gs.map fun g => V.ref g.1)) hl = some (.lst (gs.map fun g => V.ref g.1)) := yn
  generalize upd HB hl (HO.lst (gs.map fun g => V.ref g.1)) = HC at sC khl ⊢
  have sAC := sB.trans sC
  have own : ∀ c, H7 c = none -> ¬ t.own c := fun c z h => (by obtain ⟨o, ho, _⟩ := kt.there (.inl h); rw [z] at ho; cases ho)
  have hold : Hold H HC hl gs t t := ⟨⟨khl, fun g hg => sC _ _ (kg g hg).2⟩, ng, (s47.trans sB).free hhl, ⟨own _ (sB.free hhl), own _ (sB.free hhl)⟩, fun g hg => ⟨s47.free (kg g hg).1, own _ (kg g hg).1, own _ (kg g hg).1⟩⟩
  have ekv : gs.map (·.2) = t.hs.map (·.2) := egs.trans nt.eh.symm
  refine ⟨by show 0 <= sizeLine; omega, fun dl hdl => ?_⟩
  have sD := yt (o := HO.lst []) hdl
  have kd : upd HC dl (HO.lst []) dl = some (.lst t.ds) := by rw [nt.ed]; exact yn
  have fd : H dl = none := (s47.trans sAC).free hdl
  have nd : ¬ (t.own dl \/ dl = t.lL \/ dl = t.lH) := fun h => (by obtain ⟨o, ho, _⟩ := (kt.same sAC).there h; rw [hdl] at ho; cases ho)
  have nhl : hl ≠ dl := yr khl hdl
  have k0 := (kt.same sAC).same sD
  have s0D := (s47.trans sAC).trans sD
  have holdD := hold.same sD
  generalize upd HC dl (HO.lst []) = HP at sD kd k0 s0D holdD ⊢
  clear hold khl sC sB kg hdl kt
  have etb := nt.eb
  have ets := nt.el
  have tw0 : Twin t (newTr ls ps.length) := nt.twin
  have ed0 : t.ds = [] := nt.ed
  refine ⟨_, rfl, _, rfl, _, rfl, ll, _, rfl, .inl (SqL.of (s0D _ _ hll)), t, rooms, tr, tm, ps, 1, (by rw [etb, ets, zA]; rfl), k0, by decide, fun s1 HQ sQ f1 se1 => ⟨by show 1 <= sizeLine; omega, fun sl hsl => ?_⟩⟩
  have sR := yt (o := HO.lst [V.ref s1]) hsl
  have ksl : upd HQ sl (HO.lst [V.ref s1]) sl = some (.lst [V.ref s1]) := yn
  have sPR := sQ.trans sR
  have fsl : HP sl = none := sQ.free hsl
  have se2 : SeenAt (cut (fun c => HP c ≠ none \/ c = sl) (upd HQ sl (HO.lst [V.ref s1]))) s1 (snOf rooms.length t) := se1.same (cut_keep (fun c u e z => by
   rcases z with z | z
   ·exact z
   ·rw [z, hsl] at e; cases e) fun c u _ e => sR c u e)
  generalize upd HQ sl (HO.lst [V.ref s1]) = HR at sR ksl sPR se2 ⊢
  obtain ⟨M, eM⟩ : ∃ M : Addr -> Prop, M = fun c => HP c ≠ none \/ c = sl := ⟨_, rfl⟩
  rw [<- eM] at se2
  have pres : ∀ {c : Addr} {u : HO}, HP c = some u -> M c := fun {c u} e => by rw [eM]; exact .inl (by rw [e]; intro z; cases z)
  have mO : ∀ c, t.own c -> M c := fun c z => by obtain ⟨o, ho, _⟩ := k0.there (.inl z); exact pres ho
  have mD : M dl := pres kd
  have mS : M sl := by rw [eM]; exact .inr rfl
  have mG : ∀ g ∈ gs, M g.1 := fun g hg => pres (holdD.at_.2 g hg)
  have mH : M hl := pres holdD.at_.1
  have mB : ∀ c, H c ≠ none -> M c := fun c z => by
   cases e : H c with
   | none => exact absurd e z
   | some o => exact pres (s0D _ _ e)
  have pM : ∀ c, M c -> HR c ≠ none := fun c z => by
   rw [eM] at z
   rcases z with z | z
   ·cases e : HP c with
    | none => exact absurd e z
    | some o => rw [sPR _ _ e]; intro z; cases z
   ·rw [z, ksl]; intro z; cases z
  have fslH : H sl = none := s0D.free fsl
  have nsl : ¬ (t.own sl \/ sl = t.lL \/ sl = t.lH) := fun h => (by obtain ⟨o, ho, _⟩ := k0.there h; rw [fsl] at ho; cases ho)
  have nhs : hl ≠ sl := yr holdD.at_.1 fsl
  have nds : dl ≠ sl := yr kd fsl
  have kdR := sPR _ _ kd
  have kR := k0.same sPR
  have holdR := holdD.same sPR
  have sHR := s0D.trans sPR
  have hl0 := (hb.same sHR).book
  clear k0 holdD kd sD s0D se1 sR sQ hsl pres f1 eM sPR nt
  refine ⟨_, rfl, sa, _, rfl, .inl (sHR.seq hS), _, _, rfl, _, _, rfl, ⟨by decide, by decide, ?_, ?_⟩, ?_⟩
  ·split <;> omega
  ·rw [zA]; split <;> omega
  refine for_range (lo := 2) (fun i σ H5 => ∃ t' gs ys, ∃ (sns : List Addr), ∃ at0 n0 : Nat, n0 <= 62 /\ n0 <= 1 + i /\ (∃ v8 v9, σ = [some (.ref sa), some (.ref b), some (.ref ll), some (.ref t.x), some (.ref hl), some (.ref dl), some (.ref sl), some (.int (at0 : Int)), v8, v9]) /\ Same H H5 /\ TrOk a.c_Trip H5 t' rooms tr tm ps n0 /\ SameAd t t' /\ Hold H H5 hl gs t' t' /\ (∀ g ∈ gs, M g.1) /\ gs.map (·.2) = t'.hs.map (·.2) /\ at0 <= ps.length /\ Twin t' (runT (ps.map (·.2)) (newTr ls ps.length) ys) /\ RunOk rooms (ps.map (·.2)) (newTr ls ps.length) ys /\ ys.length <= i /\ t'.ds = (ys.map fun y => V.ref y.1) /\ DsAt H5 ys /\ H5 dl = some (.lst t'.ds) /\ H5 sl = some (.lst (sns.map V.ref)) /\ sns.length = ys.length + 1 /\ (∀ c, M c -> H5 c ≠ none) /\ ∀ (j : Nat) s, sns[j]? = some s -> SeenAt (cut M H5) s (snOf rooms.length (runT (ps.map (·.2)) (newTr ls ps.length) (ys.take j)))) ⟨t, gs, [], [s1], 0, 1, by decide, by omega, ⟨_, _, rfl⟩, sHR, kR, ⟨rfl, rfl, rfl, rfl, rfl, rfl, rfl, rfl, rfl⟩, holdR, mG, ekv, zb _, tw0, trivial, zG _, ed0, (fun y hy => by cases hy), kdR, ksl, rfl, pM, fun j s2 hs2 => ?_⟩ ?_ ?_
  ·cases j with
   | zero => cases hs2; rw [Twin.sn tw0 ed0] at se2; exact se2
   | succ j => cases hs2
  rotate_left
  ·rintro σ H5 ⟨t', gs, ys, sns, at0, n0, n62, ni, ⟨v8, v9, rfl⟩, sm, k, ad, hold, mG, ekv, ha, tw, rok, ly, eds, dsa, kd, ksl, lsn, pM, sns5⟩
   refine ⟨_, rfl, _, rfl, by show 2 <= sizeLine; omega, fun p hp => ?_⟩
   have s9 := yt (o := HO.tup [V.ref dl, V.ref sl]) hp
   have k9 : upd H5 p (HO.tup [V.ref dl, V.ref sl]) p = some (.tup [V.ref dl, V.ref sl]) := yn
   generalize upd H5 p (HO.tup [V.ref dl, V.ref sl]) = H9 at s9 k9 ⊢
   refine q p dl sl ys sns H9 (sm.trans s9) k9 (by rw [<- eds]; exact s9 _ _ kd) (dsa.same s9) ?_ rok (s9 _ _ ksl) lsn fun j s2 hs2 => (sns5 j s2 hs2).same (cut_keep (fun c u _ z => mB c z) fun c u _ e => s9 c u e)
   have ly2 := ly
   rw [zA] at ly2
   revert ly2
   split <;> intro h <;> omega
  clear kR holdR ekv kdR sHR se2 tw0 ed0 mG pM ksl hl0
  rintro i σ H5 hi ⟨t', gs, ys, sns, at0, n0, n62, ni, ⟨v8, v9, rfl⟩, sm, k, ad, hold, mG, ekv, ha, tw, rok, ly, eds, dsa, kd, ksl, lsn, pM, sns5⟩
  have i60 : i < 60 := by
   rw [zA] at hi
   revert hi
   split <;> intro h <;> omega
  have few := k.few
  have lgs : gs.length = t'.ls.length := by have := congrArg List.length ekv; rw [zA, zA] at this; rw [this, k.lh]
  have sgs : ∀ g ∈ gs, g.2.length <= n0 := fun g hg => by
   have : g.2 ∈ t'.hs.map (·.2) := by rw [<- ekv]; exact zQ.mpr ⟨g, hg, rfl⟩
   obtain ⟨h, hh, e⟩ := zQ.mp this
   rw [<- e]; exact k.sh h hh
  have nd' : ¬ (t'.own dl \/ dl = t'.lL \/ dl = t'.lH) := by rw [ad.own, ad.lL, ad.lH]; exact nd
  have nsl' : ¬ (t'.own sl \/ sl = t'.lL \/ sl = t'.lH) := by rw [ad.own, ad.lL, ad.lH]; exact nsl
  refine ⟨_, rfl, _, rfl, sa, ns, 2 + i, by simp, sm.seq hS, by omega, fun p2 H6 hp2 pu2 s6 => ?_⟩
  have hold6 := hold.same s6
  refine ⟨_, rfl, _, rfl, _, rfl, p2, b, hl, at0, gs, rooms, tr, tm, ps, rfl, (hb.same sm).same s6, rm1, by omega, gd, ha, hold6.at_, yr hold.at_.1 hp2, by omega, fun g hg => (by have := sgs g hg; omega), pu2, fun y d H7 g7 hd => ?_⟩
  have s7 : Same H5 H7 := But.same hp2 s6 g7.1
  replace sm := sm.trans s7
  replace k := k.same s7
  replace hold := hold.same s7
  replace dsa := dsa.same s7
  replace kd := s7 _ _ kd
  replace ksl := s7 _ _ ksl
  have pM7 : ∀ c, M c -> H7 c ≠ none := fun c z => by
   cases e : H5 c with
   | none => exact absurd e (pM c z)
   | some o => rw [s7 _ _ e]; intro z; cases z
  have sns7 : ∀ (j : Nat) s, sns[j]? = some s -> SeenAt (cut M H7) s (snOf rooms.length (runT (ps.map (·.2)) (newTr ls ps.length) (ys.take j))) := fun j s h => (sns5 j s h).same (cutN s7)
  refine ⟨_, rfl, _, rfl, t', y, rooms, tr, tm, ps, n0, (by rw [ad.x]; rfl), k, by omega, .inl ⟨d, hd, fun c HB kp kB => ⟨rfl, _, rfl, iteB1 rfl ?_⟩, fun c HB sB => ⟨rfl, _, rfl, iteB0 (decide_eq_false fun z => c (by have := V.int.inj z; omega)) ?_⟩⟩⟩
  rotate_left
  ·refine ⟨t', gs, ys, sns, at0, n0, n62, by omega, ⟨_, _, rfl⟩, sm.trans sB, k.same sB, ad, hold.same sB, mG, ekv, ha, tw, rok, by omega, eds, dsa.same sB, sB _ _ kd, sB _ _ ksl, lsn, fun c z => ?_, fun j s h => (sns7 j s h).same (cutN sB)⟩
   cases e : H7 c with
   | none => exact absurd e (pM7 c z)
   | some o => rw [sB _ _ e]; intro z; cases z
  have adT := doneT_ad t' (ps.map (·.2)) y d
  have ft' : ∀ c, t'.own c -> H c = none := fun c z => ft c (.inl ((ad.own c).mp z))
  have smB := kp.old sm ft'
  have holdB : Hold H HB hl gs (t'.doneT (ps.map (·.2)) y d) (t'.doneT (ps.map (·.2)) y d) := ⟨⟨kp _ _ hold.nl.1 hold.at_.1, fun g hg => kp _ _ (hold.fg g hg).2.1 (hold.at_.2 g hg)⟩, hold.nd, hold.fl, ⟨fun z => hold.nl.1 ((adT.own _).mp z), fun z => hold.nl.1 ((adT.own _).mp z)⟩, fun g hg => ⟨(hold.fg g hg).1, fun z => (hold.fg g hg).2.1 ((adT.own _).mp z), fun z => (hold.fg g hg).2.1 ((adT.own _).mp z)⟩⟩
  have kdB := kp _ _ (fun z => nd' (.inl z)) kd
  have kslB := kp _ _ (fun z => nsl' (.inl z)) ksl
  have tuB : Tups H7 HB := fun c xs e => kp c _ (fun z => by obtain ⟨o, ho, no⟩ := k.there (.inl z); rw [e] at ho; cases ho; exact no _ rfl) e
  have hdB := hd.tups tuB
  have dsaB : DsAt HB ys := fun y hy => tuB _ _ (dsa y hy)
  obtain ⟨n, h, en, hh, enew, hc⟩ := doneT_kvs k y c
  obtain ⟨g, hg⟩ : ∃ g, gs[n]? = some g := ⟨_, zE (by have := (zB.mp hh).1; have := k.lh; omega)⟩
  have egh : g.2 = h.2 := by
   have := congrArg (·[n]?) ekv
   simp only [zC, hg, hh, yA, Option.some.injEq] at this
   exact this
  have gm := zD hg
  rw [<- egh] at hc enew
  have ld := k.dn
  refine ⟨_, rfl, .inl ⟨rfl, _, SqL.of kdB⟩, _, rfl, dl, _, _, rfl, rfl, kdB, by omega, ?_⟩
  have bE : But dl HB (upd HB dl (HO.lst (t'.ds ++ [y]))) := But.set
  have kdE : upd HB dl (HO.lst (t'.ds ++ [y])) dl = some (.lst (t'.ds ++ [y])) := yn
  generalize upd HB dl (HO.lst (t'.ds ++ [y])) = HE at bE kdE ⊢
  have ndT : ¬ ((t'.doneT (ps.map (·.2)) y d).own dl \/ dl = (t'.doneT (ps.map (·.2)) y d).lL \/ dl = (t'.doneT (ps.map (·.2)) y d).lH) := by rw [adT.own, adT.lL, adT.lH]; exact nd'
  have nsT : ¬ ((t'.doneT (ps.map (·.2)) y d).own sl \/ sl = (t'.doneT (ps.map (·.2)) y d).lL \/ sl = (t'.doneT (ps.map (·.2)) y d).lH) := by rw [adT.own, adT.lL, adT.lH]; exact nsl'
  have kE := kB.butO bE kdB (by intro _ z; cases z) ndT
  have holdE := holdB.butL bE kdB nhl
  have smE : Same H HE := fun c u e => bE c u (yr e fd) (smB c u e)
  have tuE : Tups HB HE := fun c xs e => bE _ _ (xU e kdB (by intro z; cases z)) e
  have hdE := hdB.tups tuE
  have kslE := bE _ _ nds.symm kslB
  refine ⟨_, rfl, _, rfl, _, rfl, b, hl, y, d, gs, rooms, tr, tm, ps, n, g, rfl, hb.same smE, gd, holdE.at_, hdE, en, hg, (by have := sgs g gm; omega), hc, fun HF bF eF => ?_⟩
  have kF := kE.butO bF (holdE.at_.2 g gm) (by intro _ z; cases z) (fun z => by
   rcases z with z | z | z
   ·exact (holdE.fg g gm).2.1 z
   ·exact xU (holdE.at_.2 g gm) kE.at_.lts (by intro z; cases z) z
   ·exact xU (holdE.at_.2 g gm) kE.at_.hol (by intro z; cases z) z)
  have holdF := holdE.put hg bF eF
  have smF : Same H HF := fun c u e => bF c u (yr e (holdE.fg g gm).1) (smE c u e)
  have tuF : Tups HE HF := fun c xs e => bF _ _ (xU e (holdE.at_.2 g gm) (by intro z; cases z)) e
  obtain ⟨ya, rfl, hy⟩ := hdE.tups tuF
  have kdF := bF _ _ (xU kdE (holdE.at_.2 g gm) (by intro z; cases z)) kdE
  have kslF := bF _ _ (xU kslE (holdE.at_.2 g gm) (by intro z; cases z)) kslE
  have ekvF : (gs.set n (g.1, kvNext (ps.map (·.2)) g.2 d)).map (·.2) = (t'.doneT (ps.map (·.2)) (.ref ya) d).hs.map (·.2) := by rw [enew, ye, ekv]
  have adF : SameAd t (t'.doneT (ps.map (·.2)) (.ref ya) d) := ⟨adT.x.trans ad.x, adT.b.trans ad.b, adT.lL.trans ad.lL, adT.lH.trans ad.lH, adT.lA.trans ad.lA, adT.lP.trans ad.lP, adT.lD.trans ad.lD, adT.ls.trans ad.ls, adT.hs.trans ad.hs⟩
  have edsF : (t'.doneT (ps.map (·.2)) (.ref ya) d).ds = (ys ++ [(ya, d)]).map (fun y => V.ref y.1) := by rw [doneT_ds, eds, zL]; rfl
  have dsaF : DsAt HF (ys ++ [(ya, d)]) := fun y hy' => by
   rcases zZ.mp hy' with h1 | h1
   ·exact tuF _ _ (tuE _ _ (dsaB y h1))
   ·rw [zM.mp h1]; exact hy
  have twF : Twin (t'.doneT (ps.map (·.2)) (.ref ya) d) (runT (ps.map (·.2)) (newTr ls ps.length) (ys ++ [(ya, d)])) := by rw [runT_snoc]; exact tw.done d
  have rokF : RunOk rooms (ps.map (·.2)) (newTr ls ps.length) (ys ++ [(ya, d)]) := rok.snoc (by rw [<- tw.code]; exact c)
  have kpF : ∀ c u, ¬ M c -> H7 c = some u -> HF c = some u := fun c u m e => bF c u (fun z => m (by rw [z]; exact mG g gm)) (bE c u (fun z => m (by rw [z]; exact mD)) (kp c u (fun z => m (mO c ((ad.own c).mp z))) e))
  have pMF : ∀ c, M c -> HF c ≠ none := fun c z => by
   by_cases c1 : c = g.1
   ·rw [c1, eF]; intro z; cases z
   by_cases c2 : c = dl
   ·rw [c2, kdF]; intro z; cases z
   cases e : H7 c with
   | none => exact absurd e (pM7 c z)
   | some o =>
    by_cases c3 : t'.own c
    ·obtain ⟨o, ho, _⟩ := kF.there (.inl ((adT.own c).mpr c3))
     rw [ho]; intro z; cases z
    ·rw [bF c o c1 (bE c o c2 (kp c o c3 e))]; intro z; cases z
  have mGF : ∀ x ∈ gs.set n (g.1, kvNext (ps.map (·.2)) g.2 d), M x.1 := fun x hx => by
   rcases List.mem_or_eq_of_mem_set hx with h1 | h1
   ·exact mG x h1
   ·rw [h1]; exact mG g gm
  obtain ⟨w1, rest, ev⟩ : ∃ w1 rest, d.vs = V.str w1 :: rest := by cases d <;> exact ⟨_, _, rfl⟩
  have hy' : HF ya = some (.tup (V.str w1 :: rest)) := by rw [<- ev]; exact hy
  refine ⟨_, rfl, ya, _, _, V.str w1, rfl, rfl, SqT.of hy', (show atI (V.str w1 :: rest) ((0 : Nat) : Int) = _ from xM rfl), rfl, _, rfl, iteN (fun σ H8 => ∃ at1 : Nat, at1 <= ps.length /\ (∃ v8 v9, σ = [some (.ref sa), some (.ref b), some (.ref ll), some (.ref t.x), some (.ref hl), some (.ref dl), some (.ref sl), some (.int (at1 : Int)), v8, v9]) /\ H8 = HF) ?_ ?_ ?_⟩
  ·rintro σ H8 ⟨at1, ha1, ⟨v8, v9, rfl⟩, rfl⟩
   refine ⟨_, rfl, .inl ⟨rfl, _, SqL.of kslF⟩, _, rfl, _, rfl, _, rfl, ll, _, rfl, .inl (SqL.of (smF _ _ hll)), t'.doneT (ps.map (·.2)) (.ref ya) d, rooms, tr, tm, ps, n0 + 1, (by rw [adF.x, adF.b, adF.ls, etb, ets, zA]; rfl), kF, by omega, fun s2 HG sG fG seG => ?_⟩
   have kslG := sG _ _ kslF
   refine ⟨sl, _, _, rfl, rfl, kslG, by rw [zA]; omega, ?_⟩
   have bI : But sl HG (upd HG sl (HO.lst (sns.map V.ref ++ [V.ref s2]))) := But.set
   have kI : upd HG sl (HO.lst (sns.map V.ref ++ [V.ref s2])) sl = some (.lst ((sns ++ [s2]).map V.ref)) := by rw [yn, zL]; rfl
   generalize upd HG sl (HO.lst (sns.map V.ref ++ [V.ref s2])) = HI at bI kI ⊢
   have kG := kF.same sG
   have holdG := holdF.same sG
   have smG := smF.trans sG
   have tuI : Tups HG HI := fun c xs e => bI _ _ (xU e kslG (by intro z; cases z)) e
   refine ⟨_, _, ys ++ [(ya, d)], sns ++ [s2], at1, n0 + 1, by omega, by omega, ⟨_, _, rfl⟩, fun c u e => bI c u (yr e fslH) (smG c u e), kG.butO bI kslG (by intro _ z; cases z) nsT, adF, holdG.butL bI kslG nhs, mGF, ekvF, ha1, twF, rokF, by rw [zT]; show _ + 1 <= _; omega, edsF, fun y hy => tuI _ _ (sG _ _ (dsaF y hy)), bI _ _ nds (sG _ _ kdF), kI, by rw [zT, zT, lsn]; rfl, fun c z => ?_, fun j s h => ?_⟩
   ·by_cases c1 : c = sl
    ·rw [c1, kI]; intro z; cases z
    cases e : H8 c with
    | none => exact absurd e (pMF c z)
    | some o => rw [bI c o c1 (sG _ _ e)]; intro z; cases z
   ·by_cases hj : j < sns.length
    ·rw [yB hj] at h
     have := sns7 j s h
     rw [List.take_append_of_le_length (by omega)]
     exact this.same (cut_keep (fun _ _ _ z => z) fun c u m e => bI c u (fun z => m (by rw [z]; exact mS)) (sG _ _ (kpF c u m e)))
    ·rw [zg (by omega)] at h
     obtain rfl : j = sns.length := by
      have := (zB.mp h).1
      simp at this; omega
     rw [Nat.sub_self] at h
     cases h
     rw [lsn, zd (by rw [zT]; exact zG _), <- Twin.sn twF (by rw [edsF, runT_ds]; rfl)]
     exact seG.same (cut_keep (fun c u e z => pMF c z) fun c u m e => bI c u (fun z => m (by rw [z, kslF]; intro z; cases z)) e)
  ·intro c1 kk
   cases d with
   | drop l0 w0 =>
    cases ev
    exact absurd c1 (by decide)
   | pass gv m0 l0 w0 =>
    obtain ⟨m, M0, rfl, hM, _⟩ := hc
    have hm : m < ps.length := by have := (zB.mp hM).1; simpa using this
    exact ⟨_, rfl, ya, _, _, _, rfl, rfl, SqT.of hy, rfl, kk _ _ ⟨m, by omega, ⟨_, _, rfl⟩, rfl⟩⟩
  ·intro _
   exact ⟨at0, ha, ⟨_, _, rfl⟩, rfl⟩
theorem sc__law_apart : FnScope ["_law_deeds", "_law_kept", "_law_found", "_law_deed"] ["_law_deeds", "_law_kept"] (defScope s__law_apart) := ⟨rfl, rfl, rfl, by decide +kernel, rfl, by decide +kernel, by decide +kernel⟩
theorem ok__law_apart (T : Tx K mg a) : FnOk P w K mg base CX0 1 a.a__law_apart a.d__law_apart ["_law_deeds", "_law_kept"] (spApart50) := by
 refine T.F__law_apart.ok sc__law_apart (fun vs H Q E h => ?_) (fun cdv A outer s H vs Q E hr h => ?_)
 ·obtain ⟨_, _, _, _, rfl, _⟩ := h; rfl
 ·have nd := sc__law_apart.nd
  have hu := hr.units
  obtain ⟨dl, kl, ys, ks, rfl, hdl, dsa, dlet, y64, hkl, k64, q⟩ := h
  refine ⟨_, (yw (xC (xB (i := 2) nd rfl (by first | exact Or.inl rfl | exact Or.inr rfl) (xS wB)) (xC (ps_for PassesOwn.never rfl (pi_list' rfl (pv 0)) (y8 (i := 3) nd rfl (by first | exact Or.inl rfl | exact Or.inr rfl)) (yw (xK (xL (xA (op_in_seq' rfl) (xD (xH rfl) (pv 3) (pe_un un_neg yq) (fun _ _ => rfl)) (pv 1) rfl) (yw (xK (xX (pe_bm zX zl zm mt_append (pv 2) (yl (yo (xI (op_catT3 rfl) (pe_slice (sl_tup' rfl) (pv 3) po_none (po_some (pe_un un_neg yq))) (xq (yl (yo (pe_bm zX PySem.F.slot_list_index PySem.F.type_list_index (mt_index rfl (by exact hu)) (pv 1) (yl (yo (xD (xH rfl) (pv 3) (pe_un un_neg yq) (fun _ _ => rfl)) yu rfl))) (yo (xD (xH rfl) (pv 3) (pe_un un_neg yq) (fun _ _ => rfl)) yu rfl) rfl)))) yu rfl)))))) xE)))) (xK (xJ (pv 2)))))), ?_⟩
  have line := line9
  refine ⟨by show 0 <= sizeLine; omega, fun lf hlf => ?_⟩
  have s1 := yt (o := HO.lst []) hlf
  have k1 : upd H lf (HO.lst []) lf = some (.lst []) := yn
  generalize upd H lf (HO.lst []) = H1 at s1 k1 ⊢
  refine ⟨_, rfl, dl, rfl, ⟨_, SqL.of (s1 _ _ hdl)⟩, ?_⟩
  refine for_list (K := K) (a := dl) (xs := ys.map fun y => V.ref y.1) (fun j σ H5 => ∃ zs : List (Addr × Dd), (∃ v3, σ = [some (.ref dl), some (.ref kl), some (.ref lf), v3]) /\ Same H H5 /\ H5 lf = some (.lst (zs.map fun z => V.ref z.1)) /\ DsAt H5 zs /\ zs.map (·.2) = ((ys.take j).map (·.2)).filterMap (Dd.ren ks) /\ zs.length <= j) ⟨[], ⟨_, rfl⟩, s1, k1, (fun _ z => nomatch z), rfl, zG _⟩ ?_ ?_ ?_
  ·rintro j σ H5 _ ⟨_, _, s5, _⟩
   exact SqL.of (s5 _ _ hdl)
  ·rintro j x σ H5 hx ⟨zs, ⟨v3, rfl⟩, s5, kf, dz, ez, lz⟩
   obtain ⟨y, hy, rfl⟩ := xO hx
   have ym := zD hy
   have jl : j < ys.length := (zB.mp hy).1
   obtain ⟨n, en⟩ := dlet y ym
   have hy5 := s5 _ _ (dsa y ym)
   have hk5 := s5 _ _ hkl
   have et : ((ys.take (j + 1)).map (·.2)).filterMap (Dd.ren ks) = ((ys.take j).map (·.2)).filterMap (Dd.ren ks) ++ (y.2.ren ks).toList := by
    rw [xR hy, zL, List.filterMap_append]
    congr 1
   obtain ⟨y1, y2⟩ := y
   dsimp only at *
   cases y2 with
   | drop l w =>
    obtain rfl : l = (n : Int) := en
    refine ⟨_, rfl, _, rfl, y1, _, _, _, rfl, rfl, SqT.of hy5, rfl, _, rfl, kl, _, rfl, .inl (SqL.of hk5), rfl, nV_flat ks, _, rfl, ?_⟩
    show if inV (V.int (n : Int)) (nV ks) = true then _ else _
    rw [inV_nV]
    by_cases hn : n ∈ ks
    rotate_left
    ·have er : Dd.ren ks (Dd.drop (n : Int) w) = none := by unfold Dd.ren; rw [show (Dd.drop (n : Int) w).let = (n : Int) from rfl, zF, if_neg hn]
     exact iteB0 (decide_eq_false hn) ⟨zs, ⟨_, rfl⟩, s5, kf, dz, by rw [et, er, ez]; exact (zy _).symm, by omega⟩
    have er : Dd.ren ks (Dd.drop (n : Int) w) = some (Dd.drop ((ks.idxOf n : Nat) : Int) w) := by unfold Dd.ren; rw [show (Dd.drop (n : Int) w).let = (n : Int) from rfl, zF, if_pos hn]; rfl
    rw [er] at et
    refine iteB1 (decide_eq_true hn) ⟨_, rfl, .inl ⟨rfl, _, SqL.of kf⟩, _, rfl, _, rfl, _, rfl, y1, _, rfl, SqT.of hy5, (fun z => by have := z.2; revert this; show HT.sIx 3 3 (some (-2)) = 3 -> False; decide), fun t1 ht1 => ?_⟩
    rw [show cutV (Dd.drop (n : Int) w).vs none (some (-2)) = [V.str (Str.ofString "drop")] from rfl]
    have s6 := yt (o := HO.tup [V.str (Str.ofString "drop")]) ht1
    have kt1 : upd H5 t1 (HO.tup [V.str (Str.ofString "drop")]) t1 = some (.tup [V.str (Str.ofString "drop")]) := yn
    generalize upd H5 t1 (HO.tup [V.str (Str.ofString "drop")]) = H6 at s6 kt1 ⊢
    refine ⟨_, rfl, .inl ⟨rfl, _, SqL.of (s6 _ _ hk5)⟩, _, rfl, _, rfl, y1, _, _, V.int (n : Int), rfl, rfl, SqT.of (s6 _ _ hy5), rfl, ?_⟩
    dsimp only [tNil]
    refine index_nV (s6 _ _ hk5) hn k64 ⟨_, rfl, _, rfl, y1, _, _, _, rfl, rfl, SqT.of (s6 _ _ hy5), rfl, by show 2 <= sizeLine; omega, fun t2 ht2 => ?_⟩
    have s7 := yt (o := HO.tup [V.int ((ks.idxOf n : Nat) : Int), V.int w]) ht2
    have kt2 : upd H6 t2 (HO.tup [V.int ((ks.idxOf n : Nat) : Int), V.int w]) t2 = some (.tup [V.int ((ks.idxOf n : Nat) : Int), V.int w]) := yn
    generalize upd H6 t2 (HO.tup [V.int ((ks.idxOf n : Nat) : Int), V.int w]) = H7 at s7 kt2 ⊢
    refine ⟨t1, t2, _, _, rfl, rfl, SqT.of (s7 _ _ kt1), SqT.of kt2, by show 1 + 2 <= sizeLine; omega, (fun z => by cases z), (fun _ z => by cases z), fun _ _ t3 ht3 => ?_⟩
    have s8 := yt (o := HO.tup ([V.str (Str.ofString "drop")] ++ [V.int ((ks.idxOf n : Nat) : Int), V.int w])) ht3
    have kt3 : upd H7 t3 (HO.tup ([V.str (Str.ofString "drop")] ++ [V.int ((ks.idxOf n : Nat) : Int), V.int w])) t3 = some (.tup (Dd.drop ((ks.idxOf n : Nat) : Int) w).vs) := yn
    generalize upd H7 t3 (HO.tup ([V.str (Str.ofString "drop")] ++ [V.int ((ks.idxOf n : Nat) : Int), V.int w])) = H8 at s8 kt3 ⊢
    have s58 := (s6.trans s7).trans s8
    have kf8 := s58 _ _ kf
    refine ⟨lf, _, _, rfl, rfl, kf8, by rw [zA]; omega, zs ++ [(t3, Dd.drop ((ks.idxOf n : Nat) : Int) w)], ⟨_, rfl⟩, same_put (s5.trans s58) hlf, by rw [yn, zL]; rfl, fun z hz => ?_, by rw [et, zL, ez]; rfl, by rw [zT]; show _ + 1 <= _; omega⟩
    have key : H8 z.1 = some (.tup z.2.vs) := by
     rcases zZ.mp hz with h | h
     ·exact s58 _ _ (dz z h)
     ·rw [zM.mp h]; exact kt3
    rw [yy (xU key kf8 (by intro z; cases z))]; exact key
   | pass gv m l g =>
    obtain rfl : l = (n : Int) := en
    refine ⟨_, rfl, _, rfl, y1, _, _, _, rfl, rfl, SqT.of hy5, rfl, _, rfl, kl, _, rfl, .inl (SqL.of hk5), rfl, nV_flat ks, _, rfl, ?_⟩
    show if inV (V.int (n : Int)) (nV ks) = true then _ else _
    rw [inV_nV]
    by_cases hn : n ∈ ks
    rotate_left
    ·have er : Dd.ren ks (Dd.pass gv m (n : Int) g) = none := by unfold Dd.ren; rw [show (Dd.pass gv m (n : Int) g).let = (n : Int) from rfl, zF, if_neg hn]
     exact iteB0 (decide_eq_false hn) ⟨zs, ⟨_, rfl⟩, s5, kf, dz, by rw [et, er, ez]; exact (zy _).symm, by omega⟩
    have er : Dd.ren ks (Dd.pass gv m (n : Int) g) = some (Dd.pass gv m ((ks.idxOf n : Nat) : Int) g) := by unfold Dd.ren; rw [show (Dd.pass gv m (n : Int) g).let = (n : Int) from rfl, zF, if_pos hn]; rfl
    rw [er] at et
    refine iteB1 (decide_eq_true hn) ⟨_, rfl, .inl ⟨rfl, _, SqL.of kf⟩, _, rfl, _, rfl, _, rfl, y1, _, rfl, SqT.of hy5, (fun z => by have := z.2; revert this; show HT.sIx 4 4 (some (-2)) = 4 -> False; decide), fun t1 ht1 => ?_⟩
    rw [show cutV (Dd.pass gv m (n : Int) g).vs none (some (-2)) = [V.str (wordG gv), V.int m] from rfl]
    have s6 := yt (o := HO.tup [V.str (wordG gv), V.int m]) ht1
    have kt1 : upd H5 t1 (HO.tup [V.str (wordG gv), V.int m]) t1 = some (.tup [V.str (wordG gv), V.int m]) := yn
    generalize upd H5 t1 (HO.tup [V.str (wordG gv), V.int m]) = H6 at s6 kt1 ⊢
    refine ⟨_, rfl, .inl ⟨rfl, _, SqL.of (s6 _ _ hk5)⟩, _, rfl, _, rfl, y1, _, _, V.int (n : Int), rfl, rfl, SqT.of (s6 _ _ hy5), rfl, ?_⟩
    dsimp only [tNil]
    refine index_nV (s6 _ _ hk5) hn k64 ⟨_, rfl, _, rfl, y1, _, _, _, rfl, rfl, SqT.of (s6 _ _ hy5), rfl, by show 2 <= sizeLine; omega, fun t2 ht2 => ?_⟩
    have s7 := yt (o := HO.tup [V.int ((ks.idxOf n : Nat) : Int), V.int g]) ht2
    have kt2 : upd H6 t2 (HO.tup [V.int ((ks.idxOf n : Nat) : Int), V.int g]) t2 = some (.tup [V.int ((ks.idxOf n : Nat) : Int), V.int g]) := yn
    generalize upd H6 t2 (HO.tup [V.int ((ks.idxOf n : Nat) : Int), V.int g]) = H7 at s7 kt2 ⊢
    refine ⟨t1, t2, _, _, rfl, rfl, SqT.of (s7 _ _ kt1), SqT.of kt2, by show 2 + 2 <= sizeLine; omega, (fun z => by cases z), (fun _ z => by cases z), fun _ _ t3 ht3 => ?_⟩
    have s8 := yt (o := HO.tup ([V.str (wordG gv), V.int m] ++ [V.int ((ks.idxOf n : Nat) : Int), V.int g])) ht3
    have kt3 : upd H7 t3 (HO.tup ([V.str (wordG gv), V.int m] ++ [V.int ((ks.idxOf n : Nat) : Int), V.int g])) t3 = some (.tup (Dd.pass gv m ((ks.idxOf n : Nat) : Int) g).vs) := yn
    generalize upd H7 t3 (HO.tup ([V.str (wordG gv), V.int m] ++ [V.int ((ks.idxOf n : Nat) : Int), V.int g])) = H8 at s8 kt3 ⊢
    have s58 := (s6.trans s7).trans s8
    have kf8 := s58 _ _ kf
    refine ⟨lf, _, _, rfl, rfl, kf8, by rw [zA]; omega, zs ++ [(t3, Dd.pass gv m ((ks.idxOf n : Nat) : Int) g)], ⟨_, rfl⟩, same_put (s5.trans s58) hlf, by rw [yn, zL]; rfl, fun z hz => ?_, by rw [et, zL, ez]; rfl, by rw [zT]; show _ + 1 <= _; omega⟩
    have key : H8 z.1 = some (.tup z.2.vs) := by
     rcases zZ.mp hz with h | h
     ·exact s58 _ _ (dz z h)
     ·rw [zM.mp h]; exact kt3
    rw [yy (xU key kf8 (by intro z; cases z))]; exact key
  rintro σ H5 ⟨zs, ⟨v3, rfl⟩, s5, kf, dz, ez, lz⟩
  rw [zA, z4] at ez
  exact ⟨_, rfl, q lf zs H5 s5 hlf kf dz ez⟩
theorem sc__law_right : FnScope ["_law_second", "_law_seen_here", "_law_kept", "_law_havings", "_law_comes", "_law_bags", "_law_done", "_law_place", "_law_walker", "_law_due"] ["_law_second", "_law_seen_here", "_law_kept"] (defScope s__law_right) := ⟨rfl, rfl, rfl, by decide +kernel, rfl, by decide +kernel, by decide +kernel⟩
theorem ok__law_right (T : Tx K mg a) : FnOk P w K mg base CX0 3 a.a__law_right a.d__law_right ["_law_second", "_law_seen_here", "_law_kept"] (spRight50 a.c_Trip) := by
 have G_Trip_having := @ok_Trip_having P w _ _ base _ T
 have G_Trip_bag := @ok_Trip_bag P w _ _ base _ T
 have G_Trip_come := @ok_Trip_come P w _ _ base _ T
 have G_Trip_done := @ok_Trip_done P w _ _ base _ T
 have G__law_apart := @ok__law_apart P w _ _ base _ T
 refine T.F__law_right.ok sc__law_right (fun vs H Q E h => ?_) (fun cdv A outer s H vs Q E hr h => ?_)
 ·obtain ⟨_, _, _, _, _, _, _, _, _, _, _, _, rfl, _⟩ := h; rfl
 ·have nd := sc__law_right.nd
  have hu := hr.units
  obtain ⟨u, t, sx, kl, ks, ys, zs, rooms, tr, tm, ps, n0, rfl, k, n64, sn, sub, knd, k41, t41, hkl, eyd, dsy, dlet, y60, ezd, dsz, ezs, q⟩ := h
  refine ⟨_, (yw (xC (ps_asg (pv 1) (pg_tupL (n := 4) rfl (xF (y8 (i := 3) nd rfl (by first | exact Or.inl rfl | exact Or.inr rfl)) (xF (y8 (i := 4) nd rfl (by first | exact Or.inl rfl | exact Or.inr rfl)) (xF (y8 (i := 5) nd rfl (by first | exact Or.inl rfl | exact Or.inr rfl)) (xF (y8 (i := 6) nd rfl (by first | exact Or.inl rfl | exact Or.inr rfl)) xm)))))) (xC (ps_for PassesOwn.never rfl (xl rfl T.b_range (yl (yo (yz (y6 rfl) (by rfl) T.b_len PySem.boot_len (yl (yo (pv 2) yu rfl))) yu rfl))) (y8 (i := 7) nd rfl (by first | exact Or.inl rfl | exact Or.inr rfl)) (yw (xC (xL (xA (op_neE hu) (xa (pv 0) T.L_Trip T.M_Trip_having G_Trip_having (hr.mono (by decide)) T.i_Trip_having .nil pass0 (yl (yo (pv 7) yu rfl))) (xD (xG rfl) (pv 3) (xD (xG rfl) (pv 2) (pv 7) (fun _ _ => rfl)) (fun _ _ => rfl)) (nomark _)) (yw (xK (xJ pe_bl))) xE) (xK (xL (xA op_ne (xa (pv 0) T.L_Trip T.M_Trip_come G_Trip_come (hr.mono (by decide)) T.i_Trip_come .nil pass0 (yl (yo (pv 7) yu rfl))) (xD (xG rfl) (pv 4) (xD (xG rfl) (pv 2) (pv 7) (fun _ _ => rfl)) (fun _ _ => rfl)) (nomark _)) (yw (xK (xJ pe_bl))) xE))))) (xC (ps_for PassesOwn.never rfl (xl rfl T.b_range (yl (yo (yz (y6 rfl) (by rfl) T.b_len PySem.boot_len (yl (yo (pv 5) yu rfl))) yu rfl))) (y8 (i := 8) nd rfl (by first | exact Or.inl rfl | exact Or.inr rfl)) (yw (xC (xB (i := 9) nd rfl (by first | exact Or.inl rfl | exact Or.inr rfl) (yz (call_sortI rfl) (by rfl) T.b_sorted PyProof.Rows.boot_sorted (yl (yo (wD (own := ["_law_number"]) (caps := [2]) rfl (show CompScope ["_law_number"] [2] ["_law_second", "_law_seen_here", "_law_kept", "_law_havings", "_law_comes", "_law_bags", "_law_done", "_law_place", "_law_walker", "_law_due"] (defScope s__law_right) _ from ⟨rfl, by decide +kernel, by decide +kernel, by decide +kernel, by decide +kernel⟩) (pi_list' rfl (xD (xG rfl) (pv 5) (pv 8) (fun _ _ => rfl))) (fun _ _ _ _ => (y8 (i := 0) (show List.Nodup (["_law_number", "_law_kept"] : List Str) from by decide +kernel) rfl (by first | exact Or.inl rfl | exact Or.inr rfl))) (fun _ _ _ _ => pts_one (xA (op_in_seq' rfl) (pv 0) (pv 1) rfl)) (fun _ _ _ _ => (pe_bmK rfl zX PySem.F.slot_list_index PySem.F.type_list_index (mt_index rfl (by exact hu)) (pv 1) (yl (yo (pv 0) yu rfl))))) yu rfl)))) (xK (xL (xA (op_neE hu) (xa (pv 0) T.L_Trip T.M_Trip_bag G_Trip_bag (hr.mono (by decide)) T.i_Trip_bag .nil pass0 (yl (yo (pv 8) yu rfl))) (pv 9) (nomark _)) (yw (xK (xJ pe_bl))) xE))))) (xK (xJ (pe_cmpR (op_eqE hu) (pe_meth0 (pv 0) T.L_Trip T.M_Trip_done G_Trip_done (hr.mono (by decide)) T.i_Trip_done .nil pass0) (yx G__law_apart (hr.mono (by decide)) rfl T.m__law_apart T.k__law_apart T.i__law_apart .nil pass0 (yl (yo (pv 6) (yo (pv 2) yu rfl) rfl))) (nomark _)))))))), ?_⟩
  have line := line9
  obtain ⟨hv, cm, bg, dn, hq, bq, a1, a2, a3, a4, a5, a6, a7, a8, a9⟩ := sn
  have lk : (nV ks).length = ks.length := by unfold nV; exact zA _
  have rm := k.rm
  have few := k.few
  refine ⟨_, rfl, sx, _, rfl, SqL.of a1, rfl, _, _, rfl, _, _, rfl, _, _, rfl, _, _, rfl, rfl, ?_⟩
  refine ⟨_, rfl, kl, _, rfl, .inl (SqL.of hkl), _, rfl, by omega, by omega, ?_⟩
  refine for_range (lo := 0) (fun i σ H5 => (∃ v7 v8 v9, σ = [some (.ref u.x), some (.ref sx), some (.ref kl), some (.ref hv), some (.ref cm), some (.ref bg), some (.ref dn), v7, v8, v9]) /\ Same H H5) ⟨⟨_, _, _, rfl⟩, Same.refl _⟩ ?_ ?_
  ·rintro i σ H5 hi ⟨⟨v7, v8, v9, rfl⟩, s5⟩
   rw [yf]
   have hi' : i < ks.length := by rw [zF, lk] at hi; exact hi
   obtain ⟨kk, hk⟩ : ∃ kk, ks[i]? = some kk := ⟨_, zE hi'⟩
   have kx := sub.kl kk (zD hk)
   obtain ⟨h, hh⟩ : ∃ h, u.hs[i]? = some h := ⟨_, zE (by rw [sub.lh]; exact hi')⟩
   obtain ⟨ht, hht⟩ : ∃ ht, t.hs[kk]? = some ht := ⟨_, zE (by rw [sub.th]; exact kx)⟩
   have eh : h.2 = ht.2 := by have := sub.hs i kk hk; rw [hh, hht] at this; exact Option.some.inj this
   obtain ⟨o, ho⟩ : ∃ o, u.os[i]? = some o := ⟨_, zE (by rw [sub.lo]; exact hi')⟩
   have hot : t.os[kk]? = some o := by rw [<- sub.os i kk hk]; exact ho
   obtain ⟨x, hx⟩ : ∃ x, hq[kk]? = some x := ⟨_, zE (by rw [a3]; show kk < (t.hs.map _).length; rw [zA, sub.th]; exact kx)⟩
   obtain ⟨b1, b2, b3, b4⟩ := a4 kk x ht.2 hx (by show (t.hs.map _)[kk]? = _; rw [zC, hht]; rfl)
   have k5 := k.same s5
   have sh := k.sh h (zD hh)
   refine ⟨_, rfl, u.x, u.dx, _, rfl, k5.at_.ins, rfl, _, rfl, u.x, u.b, u.dx, u.lL, u.lH, u.lA, u.lP, u.lD, u.ls, u.hs, u.os, u.ns, u.r, u.ds, i, h, rfl, k5.at_, hh, by omega, fun l1 qs1 H6 s6 f1 fq1 k1 kr1 pm1 pw1 => ?_⟩
   have s06 := s5.trans s6
   rw [eh] at pm1
   refine ⟨_, rfl, _, rfl, _, rfl, kl, _, _, _, rfl, rfl, SqL.of (s06 _ _ hkl), nV_at hk, hv, _, _, _, rfl, rfl, SqL.of (s06 _ _ a2), xM (by rw [zC, hx]; rfl), ?_⟩
   refine ne_rowsL k1 kr1 (s06 _ _ b1) (fun z hz => s06 _ _ (b2 z hz)) (having_same pm1 pw1 b3 b4) ⟨_, rfl, iteB0 rfl ?_⟩
   have k6 := k.same s06
   refine ⟨_, rfl, u.x, u.dx, _, rfl, k6.at_.ins, rfl, _, rfl, u.x, u.b, u.dx, u.lL, u.lH, u.lA, u.lP, u.lD, u.ls, u.hs, u.os, u.ns, u.r, u.ds, i, o, rfl, k6.at_, ho, _, rfl, _, rfl, _, rfl, kl, _, _, _, rfl, rfl, SqL.of (s06 _ _ hkl), nV_at hk, cm, _, _, _, rfl, rfl, SqL.of (s06 _ _ a5), xM (by show (t.os.map oV)[kk]? = _; rw [zC, hot]; rfl), oV_scal _ _, _, rfl, iteB0 (by rw [decide_eq_true rfl]; rfl) ⟨⟨_, _, _, rfl⟩, s06⟩⟩
  rintro σ H5 ⟨⟨v7, v8, v9, rfl⟩, s5⟩
  have lb : bq.length = rooms.length := by have := congrArg List.length a8; rw [zA] at this; rw [this]; show ((List.range _).map _).length = _; rw [zA, List.length_range]
  refine ⟨_, rfl, bg, _, rfl, .inl (SqL.of (s5 _ _ a6)), _, rfl, by omega, by rw [zA]; omega, ?_⟩
  refine for_range (lo := 0) (fun i σ H6 => (∃ v7 v8 v9, σ = [some (.ref u.x), some (.ref sx), some (.ref kl), some (.ref hv), some (.ref cm), some (.ref bg), some (.ref dn), v7, v8, v9]) /\ Same H H6) ⟨⟨_, _, _, rfl⟩, s5⟩ ?_ ?_
  ·clear s5
   rintro i σ H5 hi ⟨⟨v7, v8, v9, rfl⟩, s5⟩
   rw [yf]
   have hi' : i < rooms.length := by rw [zA, zF, lb] at hi; exact hi
   obtain ⟨xb, hxb⟩ : ∃ xb, bq[i]? = some xb := ⟨_, zE (by rw [lb]; exact hi')⟩
   have exb : xb.2 = bagTo (i : Int) t.ls t.hs t.hs.length := by
    have := congrArg (·[i]?) a8
    have e2 : (snOf rooms.length t).bags[i]? = some (bagTo (i : Int) t.ls t.hs t.hs.length) := by
     show ((List.range _).map _)[i]? = _
     rw [zC, List.getElem?_range hi']; rfl
    rw [e2, zC, hxb] at this
    exact Option.some.inj this
   have kxb := s5 _ _ (a7 xb (zD hxb))
   have lxb : xb.2.length <= 41 := by rw [exb]; have := bagTo_len (i : Int) t.ls t.hs t.hs.length; rw [sub.th] at this ⊢; omega
   refine ⟨_, rfl, _, rfl, bg, _, _, _, rfl, rfl, SqL.of (s5 _ _ a6), xM (by rw [zC, hxb]; rfl), xb.1, rfl, ⟨_, SqL.of kxb⟩, ?_⟩
   refine comp_list (K := K) (a := xb.1) (xs := xb.2.map V.int) (fun j τ acc H7 => (∃ t0, τ = [t0, some (.ref kl)]) /\ acc = ((((xb.2.take j).filter fun x => decide (x.toNat ∈ ks)).map fun x => ((ks.idxOf x.toNat : Nat) : Int)).map V.int) /\ H7 = H5) ⟨⟨_, rfl⟩, rfl, rfl⟩ (by rw [zA]; omega) ?_ ?_ ?_
   ·rintro j τ acc H7 ⟨_, rfl, rfl⟩
    refine ⟨?_, SqL.of kxb⟩
    rw [zA, zA]
    exact ze (List.length_filter_le _ _) (by rw [zq]; omega)
   ·rintro j v τ acc H7 C hv2 ⟨⟨t0, rfl⟩, rfl, rfl⟩ hC
    obtain ⟨z, hz, rfl⟩ := xO hv2
    obtain ⟨n, _, rfl, _⟩ := mem_bagTo.mp (by rw [<- exb]; exact zD hz)
    refine ⟨_, rfl, _, rfl, kl, _, rfl, .inl (SqL.of (s5 _ _ hkl)), rfl, nV_flat ks, _, rfl, ?_⟩
    show if inV (V.int (n : Int)) (nV ks) = true then _ else _
    rw [inV_nV]
    by_cases hn : n ∈ ks
    ·refine iteB1 (decide_eq_true hn) ⟨_, rfl, .inl ⟨rfl, _, SqL.of (s5 _ _ hkl)⟩, _, rfl, ?_⟩
     dsimp only [tNil]
     refine index_nV (s5 _ _ hkl) hn (by omega) (hC _ _ _ ⟨⟨_, rfl⟩, ?_, rfl⟩)
     rw [xR hz, List.filter_append, zL, zL]
     congr 1
     rw [List.filter_cons, if_pos (by rw [zF]; exact decide_eq_true hn)]
     rfl
    ·refine iteB0 (decide_eq_false hn) (hC _ _ _ ⟨⟨_, rfl⟩, ?_, rfl⟩)
     rw [xR hz, List.filter_append, List.filter_cons, if_neg (by rw [zF]; simp [hn])]
     rw [List.filter_nil, zy]
   rintro τ acc H7 ⟨⟨t0, rfl⟩, rfl, rfl⟩ lc hlc
   rw [zA, z4]
   have s6 := yt (o := HO.lst ((((xb.2.filter fun x => decide (x.toNat ∈ ks)).map fun x => ((ks.idxOf x.toNat : Nat) : Int)).map V.int))) hlc
   have kc : upd H7 lc (HO.lst ((((xb.2.filter fun x => decide (x.toNat ∈ ks)).map fun x => ((ks.idxOf x.toNat : Nat) : Int)).map V.int))) lc = some (.lst ((((xb.2.filter fun x => decide (x.toNat ∈ ks)).map fun x => ((ks.idxOf x.toNat : Nat) : Int)).map V.int))) := yn
   generalize upd H7 lc (HO.lst ((((xb.2.filter fun x => decide (x.toNat ∈ ks)).map fun x => ((ks.idxOf x.toNat : Nat) : Int)).map V.int))) = H6 at s6 kc ⊢
   have lf : ((xb.2.filter fun x => decide (x.toNat ∈ ks)).map fun x => ((ks.idxOf x.toNat : Nat) : Int)).length < 64 := by
    rw [zA]
    exact Nat.lt_of_le_of_lt (List.length_filter_le _ _) (by omega)
   refine ⟨lc, _, rfl, .inl (SqL.of kc), lf, fun l3 ms3 hl3 pm3 pw3 => ?_⟩
   rw [exb] at pm3
   have em := sub.bagEq knd (i : Int) pm3 pw3
   have s8 := yt (o := HO.lst (ms3.map V.int)) hl3
   have k8 : upd H6 l3 (HO.lst (ms3.map V.int)) l3 = some (.lst (ms3.map V.int)) := yn
   generalize upd H6 l3 (HO.lst (ms3.map V.int)) = H8 at s8 k8 ⊢
   have s08 := (s5.trans s6).trans s8
   have k9 := k.same s08
   subst em
   exact ⟨_, rfl, u.x, u.dx, _, rfl, k9.at_.ins, rfl, _, rfl, u.x, u.b, u.dx, u.lL, u.lH, u.lA, u.lP, u.lD, u.ls, u.hs, u.os, u.ns, u.r, u.ds, (i : Int), rfl, k9.at_, by rw [k.lh]; exact few, k.lh, fun l9 HD sD fD kD => ⟨_, rfl, ne_intsL kD (sD _ _ k8) ⟨_, rfl, iteB0 rfl ⟨⟨_, _, _, rfl⟩, s08.trans sD⟩⟩⟩⟩
  clear s5
  rintro σ H5 ⟨⟨v7, v8, v9, rfl⟩, s5⟩
  have k5 := k.same s5
  refine ⟨_, rfl, u.x, u.dx, _, rfl, k5.at_.ins, rfl, u.x, u.b, u.dx, u.lL, u.lH, u.lA, u.lP, u.lD, u.ls, u.hs, u.os, u.ns, u.r, u.ds, rfl, k5.at_, fun l2 hl2 => ?_⟩
  have s6 := yt (o := HO.lst u.ds) hl2
  have k6 : upd H5 l2 (HO.lst u.ds) l2 = some (.lst u.ds) := yn
  generalize upd H5 l2 (HO.lst u.ds) = H6 at s6 k6 ⊢
  have s06 := s5.trans s6
  refine ⟨_, rfl, _, rfl, dn, kl, ys, ks, rfl, s06 _ _ (by rw [<- eyd]; exact a9), dsy.same s06, dlet, by omega, s06 _ _ hkl, by omega, fun l3 zs3 H7 s7 f3 k3 dz3 ez3 => ?_⟩
  have s07 := s06.trans s7
  rw [ezd] at k6
  exact eq_deeds (s7 _ _ k6) k3 (dsz.same s07) dz3 (ezs.trans ez3.symm) (q _ s07)
theorem sc_law : FnScope ["_law_script", "_law_purse_here", "_law_book_here", "_law_letters_here", "_law_many", "_law_done", "_law_seen_here", "_law_kept", "_law_second", "_law_third", "_law_place", "_law_deed", "_law_row", "_law_k"] ["_law_script"] (defScope s_law) := ⟨rfl, rfl, rfl, by decide +kernel, rfl, by decide +kernel, by decide +kernel⟩
theorem ok_law (T : Tx K mg a) : FnOk P w K mg base CX0 8 a.a_law a.d_law ["_law_script"] (spLaw K) := by
 have G__law_purse := @ok__law_purse P w _ _ base _ T
 have G__law_take := @xN P w _ _ base _ T
 have G__law_book := @ok__law_book P w _ _ base _ T
 have G__law_letters := @ok__law_letters P w _ _ base _ T
 have G_Trip___init__ := @ok_Trip___init__ P w _ _ base _ T
 have G__law_does := @ok__law_does P w _ _ base _ T
 have G__law_seen := @ok__law_seen P w _ _ base _ T
 have G__law_told_here := @ok__law_told_here P w _ _ base _ T
 have G__law_apart := @ok__law_apart P w _ _ base _ T
 have G__law_right := @ok__law_right P w _ _ base _ T
 refine T.F_law.ok sc_law (fun vs H Q E h => ?_) (fun cdv A outer s H vs Q E hr h => ?_)
 ·obtain ⟨_, _, rfl, _⟩ := h; rfl
 ·have nd := sc_law.nd
  have hu := hr.units
  obtain ⟨sa, ns, rfl, hS, hn, q⟩ := h
  refine ⟨_, (yw (xC (xB (i := 1) nd rfl (by first | exact Or.inl rfl | exact Or.inr rfl) (yx G__law_purse (hr.mono (by decide)) rfl T.m__law_purse T.k__law_purse T.i__law_purse .nil pass0 (yl (yo (pv 0) (yo yq yu rfl) rfl)))) (xC (xB (i := 2) nd rfl (by first | exact Or.inl rfl | exact Or.inr rfl) (yx G__law_book (hr.mono (by decide)) rfl T.m__law_book T.k__law_book T.i__law_book .nil pass0 (yl (yo (pv 1) (yo yq (yo yq yu rfl) rfl) rfl)))) (xC (xB (i := 3) nd rfl (by first | exact Or.inl rfl | exact Or.inr rfl) (yx G__law_letters (hr.mono (by decide)) rfl T.m__law_letters T.k__law_letters T.i__law_letters .nil pass0 (yl (yo (yx G__law_purse (hr.mono (by decide)) rfl T.m__law_purse T.k__law_purse T.i__law_purse .nil pass0 (yl (yo (pv 0) (yo yq yu rfl) rfl))) (yo (pv 2) yu rfl) rfl)))) (xC (xB (i := 4) nd rfl (by first | exact Or.inl rfl | exact Or.inr rfl) (yz (y6 rfl) (by rfl) T.b_len PySem.boot_len (yl (yo (pv 3) yu rfl)))) (xC (ps_asg (yx G__law_told_here (hr.mono (by decide)) rfl T.m__law_told_here T.k__law_told_here T.i__law_told_here .nil pass0 (yl (yo (pv 0) (yo (pv 2) (yo (pv 3) yu rfl) rfl) rfl))) (xw (n := 2) rfl rfl (xF (y8 (i := 5) nd rfl (by first | exact Or.inl rfl | exact Or.inr rfl)) (xF (y8 (i := 6) nd rfl (by first | exact Or.inl rfl | exact Or.inr rfl)) xm)))) (xC (ps_setComp (ix := 7) nd rfl (by first | exact Or.inl rfl | exact Or.inr rfl) (own := ["_law_number"]) (caps := [1]) rfl (show CompScope ["_law_number"] [1] ["_law_script", "_law_purse_here", "_law_book_here", "_law_letters_here", "_law_many", "_law_done", "_law_seen_here", "_law_kept", "_law_second", "_law_third", "_law_place", "_law_deed", "_law_row", "_law_k"] (defScope s_law) _ from ⟨rfl, by decide +kernel, by decide +kernel, by decide +kernel, by decide +kernel⟩) (xl rfl T.b_range (yl (yo (pv 4) yu rfl))) (fun _ _ _ _ => (y8 (i := 0) (show List.Nodup (["_law_number", "_law_purse_here"] : List Str) from by decide +kernel) rfl (by first | exact Or.inl rfl | exact Or.inr rfl))) (fun _ _ _ _ => pts_one (xA xg (yx G__law_take (hr.mono (by decide)) rfl T.m__law_take T.k__law_take T.i__law_take .nil pass0 (yl (yo (pv 1) (yo yq yu rfl) rfl))) yq (nomark _))) (fun _ _ _ _ => (pv 0))) (xC (xL (xA xg (yx G__law_take (hr.mono (by decide)) rfl T.m__law_take T.k__law_take T.i__law_take .nil pass0 (yl (yo (pv 1) (yo yq yu rfl) rfl))) yq (nomark _)) (yw (xK (xX (pe_bm0 zX PySem.F.slot_list_reverse PySem.F.type_list_reverse mt_reverse (pv 7))))) xE) (xC (xB (i := 8) nd rfl (by first | exact Or.inl rfl | exact Or.inr rfl) (pe_make T.Y_Trip G_Trip___init__ (hr.mono (by decide)) rfl T.m_Trip T.i_Trip___init__ .nil pass0 (yl (yo (pv 2) (yo (wD (own := ["_law_number"]) (caps := [3]) rfl (show CompScope ["_law_number"] [3] ["_law_script", "_law_purse_here", "_law_book_here", "_law_letters_here", "_law_many", "_law_done", "_law_seen_here", "_law_kept", "_law_second", "_law_third", "_law_place", "_law_deed", "_law_row", "_law_k"] (defScope s_law) _ from ⟨rfl, by decide +kernel, by decide +kernel, by decide +kernel, by decide +kernel⟩) (pi_list' rfl (pv 7)) (fun _ _ _ _ => (y8 (i := 0) (show List.Nodup (["_law_number", "_law_letters_here"] : List Str) from by decide +kernel) rfl (by first | exact Or.inl rfl | exact Or.inr rfl))) (fun _ _ _ _ => wC) (fun _ _ _ _ => (xD (xG rfl) (pv 1) (pv 0) (fun _ _ => rfl)))) yu rfl) rfl)))) (xC (xB (i := 9) nd rfl (by first | exact Or.inl rfl | exact Or.inr rfl) (pe_make T.Y_Trip G_Trip___init__ (hr.mono (by decide)) rfl T.m_Trip T.i_Trip___init__ .nil pass0 (yl (yo (pv 2) (yo (pe_callTy (call_list_of' rfl) (by rfl) T.b_list PyProof.Rows.boot_list (yl (yo (pv 3) yu rfl))) yu rfl) rfl)))) (xC (xB (i := 10) nd rfl (by first | exact Or.inl rfl | exact Or.inr rfl) (yx G__law_take (hr.mono (by decide)) rfl T.m__law_take T.k__law_take T.i__law_take .nil pass0 (yl (yo (pv 1) (yo (xI xV (yz (y6 rfl) (by rfl) T.b_len PySem.boot_len (yl (yo (pv 5) yu rfl))) yq) yu rfl) rfl)))) (xC (ps_for PassesOwn.never rfl (pi_list' rfl (pe_slice (sl_list' rfl) (pv 5) po_none (po_some (pv 10)))) (y8 (i := 11) nd rfl (by first | exact Or.inl rfl | exact Or.inr rfl)) (yw (xK (xL (xA op_ne (yx G__law_does (hr.mono (by decide)) rfl T.m__law_does T.k__law_does T.i__law_does .nil pass0 (yl (yo (pv 9) (yo (pv 11) yu rfl) rfl))) yq (nomark _)) (yw (xK (xJ pe_bl))) xE)))) (xC (xL (xA (op_neE hu) (yx G__law_seen (hr.mono (by decide)) rfl T.m__law_seen T.k__law_seen T.i__law_seen .nil pass0 (yl (yo (pv 9) (yo (pv 2) (yo (pv 4) yu rfl) rfl) rfl))) (xD (xG rfl) (pv 6) (pv 10) (fun _ _ => rfl)) (nomark _)) (yw (xK (xJ pe_bl))) xE) (xC (xB (i := 12) nd rfl (by first | exact Or.inl rfl | exact Or.inr rfl) (yx G__law_apart (hr.mono (by decide)) rfl T.m__law_apart T.k__law_apart T.i__law_apart .nil pass0 (yl (yo (pv 5) (yo (pv 7) yu rfl) rfl)))) (xC (ps_for PassesOwn.never rfl (xl rfl T.b_range (yl (yo (yz (call_max2 rfl) (by rfl) T.b_max PyProof.Rows.boot_max (yl (yo (yz (y6 rfl) (by rfl) T.b_len PySem.boot_len (yl (yo (pv 12) yu rfl))) (yo (xI op_sub (yz (y6 rfl) (by rfl) T.b_len PySem.boot_len (yl (yo (pv 5) yu rfl))) (pv 10)) yu rfl) rfl))) yu rfl))) (y8 (i := 13) nd rfl (by first | exact Or.inl rfl | exact Or.inr rfl)) (yw (xC (xL (PW.pt (pw_and (xA op_lt (pv 13) (yz (y6 rfl) (by rfl) T.b_len PySem.boot_len (yl (yo (pv 12) yu rfl))) (nomark _)) (pw_and1 (xA op_ne (yx G__law_does (hr.mono (by decide)) rfl T.m__law_does T.k__law_does T.i__law_does .nil pass0 (yl (yo (pv 8) (yo (xD (xG rfl) (pv 12) (pv 13) (fun _ _ => rfl)) yu rfl) rfl))) yq (nomark _))))) (yw (xK (xJ pe_bl))) xE) (xK (xL (PW.pt (pw_and (xA op_lt (xI xV (pv 10) (pv 13)) (yz (y6 rfl) (by rfl) T.b_len PySem.boot_len (yl (yo (pv 5) yu rfl))) (nomark _)) (pw_and1 (xA op_ne (yx G__law_does (hr.mono (by decide)) rfl T.m__law_does T.k__law_does T.i__law_does .nil pass0 (yl (yo (pv 9) (yo (xD (xG rfl) (pv 5) (xI xV (pv 10) (pv 13)) (fun _ _ => rfl)) yu rfl) rfl))) yq (nomark _))))) (yw (xK (xJ pe_bl))) xE))))) (xC (xL (xA (op_neE hu) (yx G__law_seen (hr.mono (by decide)) rfl T.m__law_seen T.k__law_seen T.i__law_seen .nil pass0 (yl (yo (pv 9) (yo (pv 2) (yo (pv 4) yu rfl) rfl) rfl))) (xD (xG rfl) (pv 6) (pe_un un_neg yq) (fun _ _ => rfl)) (nomark _)) (yw (xK (xJ pe_bl))) xE) (xK (xJ (yx G__law_right (hr.mono (by decide)) rfl T.m__law_right T.k__law_right T.i__law_right .nil pass0 (yl (yo (pv 8) (yo (xD (xG rfl) (pv 6) (pe_un un_neg yq) (fun _ _ => rfl)) (yo (pv 7) yu rfl) rfl) rfl))))))))))))))))))))), ?_⟩
  have line := line9
  refine ⟨_, rfl, sa, ns, 0, rfl, hS, by decide, fun p H1 hp1 pu1 s1 => ?_⟩
  refine ⟨_, rfl, p, 12, 60, rfl, by decide, by decide, by decide, pu1, fun b rooms tr tm ps H2 g2 hb rm1 rm2 rm9 gd _ => ?_⟩
  have sA : Same H H2 := But.same hp1 s1 g2.1
  refine ⟨_, rfl, sa, ns, 1, rfl, sA.seq hS, by omega, fun p1 H3 hp3 pu3 s3 => ?_⟩
  refine ⟨_, rfl, p1, b, rooms, tr, tm, ps, rfl, hb.same s3, rm1, by omega, gd, pu3, fun ll ls H4 g4 hll hrw n41 nll => ?_⟩
  have s24 : Same H2 H4 := But.same hp3 s3 g4.1
  have sH4 : Same H H4 := sA.trans s24
  have pu4 : Purse H4 p := g2.2.same s24
  have hb4 := hb.same s24
  refine ⟨_, rfl, ll, _, rfl, .inl (SqL.of hll), ?_⟩
  refine ⟨_, rfl, _, rfl, _, rfl, sa, b, ll, ns, ls, rooms, tr, tm, ps, rfl, sH4.seq hS, hn, ⟨hll, hrw⟩, n41, hb4, rm1, by omega, gd, fun pt dl sl ys sns H5 s5 kpt kdl dsy y60 rok ksl lsn seen => ?_⟩
  refine ⟨pt, _, rfl, SqT.of kpt, rfl, _, _, rfl, _, _, rfl, rfl, ?_⟩
  have pu5 := pu4.same s5
  have n60 := gd.len
  have lenl : (ls.map fun x => V.ref x.1).length = ls.length := zA _
  have leny : (ys.map fun y => V.ref y.1).length = ys.length := zA _
  have nlp : ll ≠ p := pu5.refs (s5 _ _ hll) fun x hx => by obtain ⟨y, _, rfl⟩ := zQ.mp hx; exact ⟨_, rfl⟩
  have ndp : dl ≠ p := pu5.refs kdl fun x hx => by obtain ⟨y, _, rfl⟩ := zQ.mp hx; exact ⟨_, rfl⟩
  have nsp : sl ≠ p := pu5.refs ksl fun x hx => by obtain ⟨y, _, rfl⟩ := zQ.mp hx; exact ⟨_, rfl⟩
  clear hp1 hp3 pu1 pu3 s1 s3 g2 g4 sA nll
  refine ⟨_, rfl, _, rfl, by omega, by rw [lenl]; omega, ?_⟩
  refine x6 (lo := 0) (m := (ls.map fun x => V.ref x.1).length) (fun i τ acc H6 => ∃ ks : List Nat, (∃ t0, τ = [t0, some (.ref p)]) /\ acc = nV ks /\ ks.Nodup /\ (∀ k ∈ ks, k < i) /\ ks.length <= i /\ Go p H5 H6) ⟨[], ⟨_, rfl⟩, rfl, List.nodup_nil, (fun _ z => nomatch z), zG _, Go.refl pu5⟩ (by rw [lenl]; omega) ?_ ?_ ?_
  ·rintro i τ acc H6 ⟨ks, _, rfl, _, _, l, _⟩
   show (ks.map _).length <= _
   rw [zA]; exact l
  ·rintro i τ acc H6 C hi ⟨ks, ⟨t0, rfl⟩, rfl, knd, klt, lks, g6⟩ hC
   rw [yf]
   refine ⟨_, rfl, p, 2, rfl, by decide, by decide, g6.2, fun dv H7 d0 d1 g7 => ⟨rfl, _, rfl, iteD (fun c => ⟨_, rfl, hC _ _ _ ⟨ks ++ [i], ⟨_, rfl⟩, by unfold nV; rw [zL]; rfl, ?_, fun k hk => ?_, by rw [zT]; show _ + 1 <= _; omega, g6.trans g7⟩⟩) (fun c => hC _ _ _ ⟨ks, ⟨_, rfl⟩, rfl, knd, fun k hk => z6 (klt k hk), by omega, g6.trans g7⟩)⟩⟩
   ·refine List.nodup_append.mpr ⟨knd, by simp, fun x hx y hy => ?_⟩
    rw [zM.mp hy]
    exact zV (klt x hx)
   ·rcases zZ.mp hk with h | h
    ·exact z6 (klt k h)
    ·rw [zM.mp h]; exact yc _
  rintro τ acc H6 ⟨ks0, _, rfl, knd0, klt0, lks0, g6⟩ kl hkl
  have nkp : kl ≠ p := g6.2.ne hkl
  have fkl : H5 kl = none := g6.free hkl nkp
  have g6' := g6.put (o := HO.lst (nV ks0)) fkl nkp
  have kkl : upd H6 kl (HO.lst (nV ks0)) kl = some (.lst (nV ks0)) := yn
  generalize upd H6 kl (HO.lst (nV ks0)) = H6b at g6' kkl ⊢
  clear g6 hkl
  refine ⟨_, rfl, p, 2, rfl, by decide, by decide, g6'.2, fun dv H7 d0 d1 g7 => ⟨rfl, _, rfl, iteN (fun σ H8 => ∃ ks : List Nat, ks.Nodup /\ (∀ k ∈ ks, k < ls.length) /\ ks.length <= 41 /\ (∃ v8 v9 v10 v11 v12 v13, σ = [some (.ref sa), some (.ref p), some (.ref b), some (.ref ll), some (.int (((ls.map fun x => V.ref x.1).length : Nat) : Int)), some (.ref dl), some (.ref sl), some (.ref kl), v8, v9, v10, v11, v12, v13]) /\ Go p H5 H8 /\ H8 kl = some (.lst (nV ks))) ?_ ?_ ?_⟩⟩
  rotate_left
  ·intro _ kk
   have kk7 := g7.1 _ _ nkp kkl
   exact ⟨_, rfl, .inl ⟨rfl, _, SqL.of kk7⟩, kl, _, rfl, rfl, kk7, kk _ _ ⟨ks0.reverse, ((List.reverse_perm _).nodup_iff).mpr knd0, fun k hk => (by have := klt0 k (List.mem_reverse.mp hk); omega), by rw [List.length_reverse]; omega, ⟨_, _, _, _, _, _, rfl⟩, (g6'.trans g7).put fkl nkp, by rw [yn]; unfold nV; rw [List.map_reverse]⟩⟩
  ·intro _
   exact ⟨ks0, knd0, fun k hk => (by have := klt0 k hk; omega), by omega, ⟨_, _, _, _, _, _, rfl⟩, g6'.trans g7, g7.1 _ _ nkp kkl⟩
  rintro σ H8 ⟨ks, knd, klt, k41, ⟨v8, v9, v10, v11, v12, v13, rfl⟩, g8, kk8⟩
  clear knd0 klt0 lks0 g6' kkl g7 d0 d1
  have hbx : BookAt H8 b rooms tr tm ps := (hb4.same s5).tups (g8.tups pu5)
  have tup5 := g8.tups pu5
  have p8 : H8 p ≠ none := by obtain ⟨x, y, z, e⟩ := g8.2; rw [e]; intro z; cases z
  have p4 : H4 p ≠ none := by obtain ⟨x, y, z, e⟩ := pu4; rw [e]; intro z; cases z
  have b0 : ∀ {c : Addr} {u : HO}, c ≠ p -> H8 c = some u -> cut (fun c => c = p) H8 c = some u := fun {c u} n e => cut_some.mpr ⟨n, e⟩
  have s08 : Same (cut (fun c => c = p) H8) H8 := cut_le
  have tup0 : Tups H8 (cut (fun c => c = p) H8) := fun c xs e => b0 (g8.2.tup e) e
  have hb0 := hbx.tups tup0
  have hll8 : H8 ll = some (.lst (ls.map fun x => V.ref x.1)) := g8.1 _ _ nlp (s5 _ _ hll)
  have hrw8 : ∀ x ∈ ls, H8 x.1 = some (.tup (letRow x.2)) := fun x hx => tup5 _ _ (s5 _ _ (hrw x hx))
  have kdl0 := b0 ndp (g8.1 _ _ ndp kdl)
  have ksl0 := b0 nsp (g8.1 _ _ nsp ksl)
  have dsy0 : DsAt (cut (fun c => c = p) H8) ys := fun y hy => tup0 _ _ (tup5 _ _ (dsy y hy))
  have kkl0 := b0 nkp kk8
  have seen0 : ∀ (i : Nat) s, sns[i]? = some s -> SeenAt (cut (fun c => c = p) H8) s (snOf rooms.length (runT (ps.map (·.2)) (newTr ls ps.length) (ys.take i))) := fun i s h => (seen i s h).same (cut_keep (fun c u e z => by rw [z]; exact p4) fun c u m e => g8.1 c u (fun z => m (by rw [z]; exact p4)) e)
  have f0p : cut (fun c => c = p) H8 p = none := by
   cases e : cut (fun c => c = p) H8 p with
   | none => rfl
   | some o => exact absurd rfl (cut_some.mp e).1
  generalize cut (fun c => c = p) H8 = H0 at b0 s08 tup0 hb0 kdl0 ksl0 dsy0 kkl0 seen0 f0p
  have pu8 := g8.2
  clear b0 tup0 seen kdl ksl dsy hll hrw hb4 pu4 pu5 s5 kpt fkl tup5 g8 p4 sH4 s24 hb
  have dlet : DsLet ys := RunOk.let (newTr_len ls ps.length) rok
  have lnk : (nV ks).length = ks.length := zA _
  refine ⟨_, rfl, _, rfl, kl, rfl, ⟨_, SqL.of kk8⟩, ?_⟩
  refine comp_list (K := K) (a := kl) (xs := nV ks) (fun i τ acc H6 => ∃ lk : List (Addr × L4), (∃ t0, τ = [t0, some (.ref ll)]) /\ acc = (lk.map fun x => V.ref x.1) /\ lk.length = i /\ H8 = H6 /\ (∀ x ∈ lk, x ∈ ls) /\ ∀ q k : Nat, ks[q]? = some k -> q < i -> lk[q]? = ls[k]?) ⟨[], ⟨_, rfl⟩, rfl, rfl, rfl, (fun _ z => nomatch z), fun q k _ z => absurd z (Nat.not_lt_zero _)⟩ (by rw [lnk]; omega) ?_ ?_ ?_
  ·rintro i τ acc H6 ⟨lk, _, rfl, l, rfl, _⟩
   exact ⟨by rw [zA, l]; exact zG _, SqL.of kk8⟩
  ·rintro i v τ acc H6 C hv ⟨lk, ⟨t0, rfl⟩, rfl, l, rfl, mm, lat⟩ hC
   obtain ⟨kq, hkq, rfl⟩ := xO (show (ks.map fun k => V.int ((k : Nat) : Int))[i]? = some v from hv)
   obtain ⟨L, hL⟩ : ∃ L, ls[kq]? = some L := ⟨_, zE (klt kq (zD hkq))⟩
   refine ⟨_, rfl, _, rfl, ll, _, _, _, rfl, rfl, SqL.of hll8, xM (by rw [zC, hL]; rfl), hC _ _ _ ⟨lk ++ [L], ⟨_, rfl⟩, by rw [zL]; rfl, by rw [zT, l]; rfl, rfl, fun x hx => ?_, fun q k hq lt => ?_⟩⟩
   ·rcases zZ.mp hx with h | h
    ·exact mm x h
    ·rw [zM.mp h]; exact zD hL
   ·by_cases z : q < lk.length
    ·rw [yB z]; exact lat q k hq (by omega)
    ·obtain rfl : q = i := by omega
     rw [hkq] at hq; cases hq
     rw [hL, <- l, zg (zG _), Nat.sub_self]; rfl
  rintro τ acc H6 ⟨lk, ⟨t0, rfl⟩, rfl, llk, rfl, lkm, lka⟩ lc hlc x2 dx2 nx2 ndx2 nex2
  rw [lnk] at llk lka
  have hrwk : ∀ x ∈ lk, H8 x.1 = some (.tup (letRow x.2)) := fun x hx => hrw8 x (lkm x hx)
  have sm1 := yt (o := HO.lst (lk.map fun x => V.ref x.1)) hlc
  have kh1 : upd H8 lc (HO.lst (lk.map fun x => V.ref x.1)) lc = some (.lst (lk.map fun x => V.ref x.1)) := yn
  generalize upd H8 lc (HO.lst (lk.map fun x => V.ref x.1)) = Hm2 at sm1 kh1 nx2 ndx2 ⊢
  have sm2 : Same Hm2 (upd (upd Hm2 dx2 (.own x2)) x2 (.ins a.c_Trip dx2 [])) := same_two nx2 ndx2 nex2
  refine ⟨x2, dx2, b, lc, lk, rooms, tr, tm, ps, rfl, yn, (hbx.same sm1).same sm2, gd, by omega, sm2 _ _ kh1, fun l hl => sm2 _ _ (sm1 _ _ (hrwk l hl)), (by omega), fun u HU bt1 ku nu => ⟨rfl, ?_⟩⟩
  have sm3 : Same Hm2 HU := But.same nx2 (yt ndx2) (But.trans But.set bt1)
  have fu : ∀ c, u.own c \/ c = u.lL \/ c = u.lH -> H8 c = none := fun c hc => by
   rcases nu.fr c hc with z | z
   ·rw [z]; exact sm1.free nx2
   ·exact (sm1.trans sm2).free z
  have sU := sm1.trans sm3
  obtain rfl := nu.ex
  clear bt1 sm2 sm3 kh1 sm1
  refine ⟨_, rfl, _, rfl, ll, _, rfl, .inl (SqL.of (sU _ _ hll8)), fun lh3 hlh3 x3 dx3 nx3 ndx3 nex3 => ?_⟩
  have hbU := hbx.same sU
  have hrwU : ∀ x ∈ ls, HU x.1 = some (.tup (letRow x.2)) := fun x hx => sU _ _ (hrw8 x hx)
  have sm1 := yt (o := HO.lst (ls.map fun x => V.ref x.1)) hlh3
  have kh1 : upd HU lh3 (HO.lst (ls.map fun x => V.ref x.1)) lh3 = some (.lst (ls.map fun x => V.ref x.1)) := yn
  generalize upd HU lh3 (HO.lst (ls.map fun x => V.ref x.1)) = Hm3 at sm1 kh1 nx3 ndx3 ⊢
  have sm2 : Same Hm3 (upd (upd Hm3 dx3 (.own x3)) x3 (.ins a.c_Trip dx3 [])) := same_two nx3 ndx3 nex3
  refine ⟨x3, dx3, b, lh3, ls, rooms, tr, tm, ps, rfl, yn, (hbU.same sm1).same sm2, gd, by omega, sm2 _ _ kh1, fun l hl => sm2 _ _ (sm1 _ _ (hrwU l hl)), n41, fun v HV bt1 kv nv => ⟨rfl, ?_⟩⟩
  have sm3 : Same Hm3 HV := But.same nx3 (yt ndx3) (But.trans But.set bt1)
  have fv : ∀ c, v.own c \/ c = v.lL \/ c = v.lH -> HU c = none := fun c hc => by
   rcases nv.fr c hc with z | z
   ·rw [z]; exact sm1.free nx3
   ·exact (sm1.trans sm2).free z
  have sV := sm1.trans sm3
  obtain rfl := nv.ex
  clear bt1 sm2 sm3 kh1 sm1
  have two : Two a.c_Trip H0 HV u v rooms tr tm ps 1 1 := by
   refine ⟨ku.same sV, kv, s08.trans (sU.trans sV), fun c z => s08.free (fu c (.inl z)), fun c z => s08.free (sU.free (fv c (.inl z))), fun c z h => ?_, fun c z h => ?_⟩
   ·obtain ⟨o, ho, _⟩ := ku.there (.inl z)
    rw [fv c h] at ho; cases ho
   ·obtain ⟨o, ho, _⟩ := ku.there h
    rw [fv c (.inl z)] at ho; cases ho
  have pU : HU p ≠ none := by
   cases e : H8 p with
   | none => exact absurd e p8
   | some o => rw [sU _ _ e]; intro z; cases z
  have nup : ¬ (u.own p \/ p = u.lL \/ p = u.lH) := fun z => p8 (fu p z)
  have nvp : ¬ (v.own p \/ p = v.lL \/ p = v.lH) := fun z => pU (fv p z)
  have puV := pu8.same (sU.trans sV)
  have twU : Twin u (newTr lk ps.length) := nu.twin
  have twV : Twin v (newTr ls ps.length) := nv.twin
  have duE : u.ds = [] := nu.ed
  have dvE : v.ds = [] := nv.ed
  have vb : v.b = b := nv.eb
  have vl : v.ls = ls := nv.el
  clear fu fv pU p8 ku kv nu nv sU sV hbU hrwU hrwk hrw8 hll8 hbx kk8 s08 pu8
  refine ⟨_, rfl, _, rfl, dl, _, rfl, .inl (SqL.of (two.sm _ _ kdl0)), _, _, rfl, rfl, p, _, rfl, by omega, ?_, puV, fun plI HP p0 p1 gP => ?_⟩
  ·rw [leny]
   exact Int.lt_of_le_of_lt (b := 61) (by omega) (by decide)
  rw [leny] at p1
  obtain ⟨pl, rfl⟩ := zO p0
  have plY : pl <= ys.length := by omega
  replace two := two.draw puV gP f0p nup nvp
  clear p0 p1 gP puV nup nvp
  refine ⟨_, rfl, _, rfl, _, rfl, dl, _, rfl, SqL.of (two.sm _ _ kdl0), fun l5 hl5 => ?_⟩
  rw [cut_take, <- List.map_take]
  have n5 := two.notOwn hl5
  have s9 := yt (o := HO.lst ((ys.take pl).map fun y => V.ref y.1)) hl5
  have k5 : upd HP l5 (HO.lst ((ys.take pl).map fun y => V.ref y.1)) l5 = some (.lst ((ys.take pl).map fun y => V.ref y.1)) := yn
  replace two := two.same s9
  generalize upd HP l5 (HO.lst ((ys.take pl).map fun y => V.ref y.1)) = HQ at s9 k5 two ⊢
  obtain ⟨two, sb⟩ := two.rebase
  have k50 : cut (fun c => u.own c \/ v.own c) HQ l5 = some (.lst ((ys.take pl).map fun y => V.ref y.1)) := cut_some.mpr ⟨n5, k5⟩
  replace hb0 := hb0.same sb
  replace kdl0 := sb _ _ kdl0
  replace ksl0 := sb _ _ ksl0
  replace dsy0 := dsy0.same sb
  replace kkl0 := sb _ _ kkl0
  have seen1 : ∀ (i : Nat) s, sns[i]? = some s -> SeenAt (cut (fun c => u.own c \/ v.own c) HQ) s (snOf rooms.length (runT (ps.map (·.2)) (newTr ls ps.length) (ys.take i))) := fun i s h => (seen0 i s h).same sb
  clear seen0 f0p n5 hl5 s9 sb
  generalize cut (fun c => u.own c \/ v.own c) HQ = H1 at two hb0 kdl0 ksl0 dsy0 kkl0 seen1 k50
  clear k5
  refine ⟨l5, rfl, ⟨_, SqL.of (two.sm _ _ k50)⟩, ?_⟩
  refine for_list (K := K) (a := l5) (xs := (ys.take pl).map fun y => V.ref y.1) (fun j σ H5 => ∃ v' n1, (∃ v11 v12 v13, σ = [some (.ref sa), some (.ref p), some (.ref b), some (.ref ll), some (.int (((ls.map fun x => V.ref x.1).length : Nat) : Int)), some (.ref dl), some (.ref sl), some (.ref kl), some (.ref u.x), some (.ref v.x), some (.int (pl : Int)), v11, v12, v13]) /\ Two a.c_Trip H1 H5 u v' rooms tr tm ps 1 n1 /\ n1 <= 1 + j /\ SameAd v v' /\ Twin v' (runT (ps.map (·.2)) (newTr ls ps.length) (ys.take j)) /\ v'.ds = ((ys.take j).map fun y => V.ref y.1)) ⟨v, 1, ⟨_, _, _, rfl⟩, two, zG _, ⟨rfl, rfl, rfl, rfl, rfl, rfl, rfl, rfl, rfl⟩, twV, dvE⟩ ?_ ?_ ?_
  ·rintro j σ H5 _ ⟨_, _, _, two, _⟩
   exact SqL.of (two.sm _ _ k50)
  ·rintro j x σ H5 hx ⟨v', n1, ⟨v11, v12, v13, rfl⟩, two, ln1, ad, tw, ed⟩
   obtain ⟨y, hy, rfl⟩ := xO hx
   have hj : j < (ys.take pl).length := (zB.mp hy).1
   have hj2 : j < pl := by rw [zq] at hj; omega
   have hy2 : ys[j]? = some y := by rw [List.getElem?_take_of_lt hj2] at hy; exact hy
   have cd : codeT rooms (ps.map (·.2)) v' y.2 = 8 := by rw [tw.code]; exact rok.at j y hy2
   refine ⟨_, rfl, _, rfl, v', .ref y.1, rooms, tr, tm, ps, n1, (by rw [ad.x]; rfl), two.ku, by omega, .inl ⟨y.2, ⟨y.1, rfl, two.sm _ _ (dsy0 y (zD hy2))⟩, fun _ HB kp kB => ⟨rfl, _, rfl, iteB0 rfl ?_⟩, fun c => absurd cd c⟩⟩
   have adT := doneT_ad v' (ps.map (·.2)) (.ref y.1) y.2
   refine ⟨_, n1 + 1, ⟨_, _, _, rfl⟩, (two.swap.doT adT kp kB).swap, by omega, ⟨adT.x.trans ad.x, adT.b.trans ad.b, adT.lL.trans ad.lL, adT.lH.trans ad.lH, adT.lA.trans ad.lA, adT.lP.trans ad.lP, adT.lD.trans ad.lD, adT.ls.trans ad.ls, adT.hs.trans ad.hs⟩, by rw [xR hy2, runT_snoc]; exact tw.done y.2, by rw [doneT_ds, ed, xR hy2, zL]; rfl⟩
  rintro σ H5 ⟨v', n1, ⟨v11, v12, v13, rfl⟩, two5, ln1, ad, tw, ed⟩
  have lt5 : ((ys.take pl).map fun y => V.ref y.1).length = pl := by rw [zA, zq]; omega
  rw [lt5] at ln1 tw ed
  obtain ⟨sp, hsp⟩ : ∃ sp, sns[pl]? = some sp := ⟨_, zE (by omega)⟩
  have rdy : ∀ (zs : List (Addr × Dd)), ∀ x ∈ (zs.map fun y => V.ref y.1), ∃ a, x = V.ref a := fun zs x hx => by obtain ⟨y, _, rfl⟩ := zQ.mp hx; exact ⟨_, rfl⟩
  have snE := Twin.sn tw (by rw [ed, runT_ds]; rfl) rooms.length
  refine ⟨_, rfl, _, rfl, _, rfl, v', rooms, tr, tm, ps, n1, (by rw [ad.x, ad.b, ad.ls, vb, vl, lenl]; rfl), two5.ku, by omega, fun s2 HG sG fG seG => ?_⟩
  replace two5 := two5.same sG
  refine ⟨_, rfl, _, rfl, sl, _, _, _, rfl, rfl, SqL.of (two5.sm _ _ ksl0), xM (by rw [zC, hsp]; rfl), SeenAt.ne (seG.same cut_le) (by rw [snE]; exact (seen1 pl sp hsp).same two5.sm) (by show ∀ x ∈ v'.ds, _; rw [ed]; exact rdy _) ⟨_, rfl, iteB0 rfl ?_⟩⟩
  clear seG sG snE hsp fG
  refine ⟨_, rfl, _, rfl, dl, kl, ys, ks, rfl, two5.sm _ _ kdl0, dsy0.same two5.sm, dlet, by omega, two5.sm _ _ kkl0, by omega, fun lr zs HJ sJ fJ kr dz ez => ?_⟩
  have nrr := two5.notOwn fJ
  replace two5 := two5.same sJ
  have k_is2 : ∀ z ∈ zs, ¬ (u.own z.1 \/ v'.own z.1) := fun z hz h => by
   rcases h with h | h
   ·obtain ⟨o, ho, no⟩ := two5.kt.there (.inl h); rw [dz z hz] at ho; cases ho; exact no _ rfl
   ·obtain ⟨o, ho, no⟩ := two5.ku.there (.inl h); rw [dz z hz] at ho; cases ho; exact no _ rfl
  obtain ⟨two6, sb⟩ := two5.rebase
  have kr0 : cut (fun c => u.own c \/ v'.own c) HJ lr = some (.lst (zs.map fun z => V.ref z.1)) := cut_some.mpr ⟨nrr, kr⟩
  have dz0 : DsAt (cut (fun c => u.own c \/ v'.own c) HJ) zs := fun z hz => cut_some.mpr ⟨k_is2 z hz, dz z hz⟩
  replace hb0 := hb0.same sb
  replace kdl0 := sb _ _ kdl0
  replace ksl0 := sb _ _ ksl0
  replace dsy0 := dsy0.same sb
  replace kkl0 := sb _ _ kkl0
  have seen2 : ∀ (i : Nat) s, sns[i]? = some s -> SeenAt (cut (fun c => u.own c \/ v'.own c) HJ) s (snOf rooms.length (runT (ps.map (·.2)) (newTr ls ps.length) (ys.take i))) := fun i s h => (seen1 i s h).same sb
  clear seen1 sb nrr k_is2 sJ fJ kr dz two5 two k50
  generalize cut (fun c => u.own c \/ v'.own c) HJ = H2 at two6 hb0 kdl0 ksl0 dsy0 kkl0 seen2 kr0 dz0
  obtain ⟨rokz, subz⟩ := Sub.run knd zs (Sub.new (m := ps.length) klt llk fun q k hq => lka q k hq (zB.mp hq).1) rok ez
  have lzs : zs.length <= ys.length := by
   have := congrArg List.length ez
   rw [zA] at this
   have h2 := List.length_filterMap_le (Dd.ren ks) (ys.map (·.2))
   rw [zA] at h2
   omega
  have lenz : (zs.map fun z => V.ref z.1).length = zs.length := zA _
  refine ⟨_, rfl, lr, _, rfl, .inl (SqL.of (two6.sm _ _ kr0)), _, rfl, dl, _, rfl, .inl (SqL.of (two6.sm _ _ kdl0)), _, rfl, _, _, rfl, rfl, _, _, rfl, _, rfl, ?_, ?_, ?_⟩
  ·rw [leny, lenz]; split <;> omega
  ·rw [leny, lenz]; split <;> omega
  obtain ⟨mm, emm⟩ : ∃ mm : Int, mm = if (((ys.map fun y => V.ref y.1).length : Nat) : Int) - (pl : Int) > (((zs.map fun z => V.ref z.1).length : Nat) : Int) then (((ys.map fun y => V.ref y.1).length : Nat) : Int) - (pl : Int) else (((zs.map fun z => V.ref z.1).length : Nat) : Int) := ⟨_, rfl⟩
  rw [<- emm]
  have m1 : zs.length <= mm.toNat := by rw [emm, leny, lenz]; split <;> omega
  have m2 : ys.length <= pl + mm.toNat := by rw [emm, leny, lenz]; split <;> omega
  have m3 : mm.toNat <= 60 := by rw [emm, leny, lenz]; split <;> omega
  have m0 : 0 <= mm := by rw [emm, leny, lenz]; split <;> omega
  have mT : (mm - 0).toNat = mm.toNat := by rw [Int.sub_zero]
  refine for_range (lo := 0) (fun i σ H5 => ∃ u' v' n1 n2, (∃ v11 v13, σ = [some (.ref sa), some (.ref p), some (.ref b), some (.ref ll), some (.int (((ls.map fun x => V.ref x.1).length : Nat) : Int)), some (.ref dl), some (.ref sl), some (.ref kl), some (.ref u.x), some (.ref v.x), some (.int (pl : Int)), v11, some (.ref lr), v13]) /\ Two a.c_Trip H2 H5 u' v' rooms tr tm ps n1 n2 /\ n1 <= 1 + i /\ n2 <= 61 /\ SameAd u u' /\ SameAd v v' /\ Twin u' (runT (ps.map (·.2)) (newTr lk ps.length) (zs.take i)) /\ Twin v' (runT (ps.map (·.2)) (newTr ls ps.length) (ys.take (pl + i))) /\ u'.ds = ((zs.take i).map fun y => V.ref y.1) /\ v'.ds = ((ys.take (pl + i)).map fun y => V.ref y.1) /\ n2 <= 1 + (ys.take (pl + i)).length) ⟨u, v', 1, n1, ⟨_, _, rfl⟩, two6, zG _, by omega, ⟨rfl, rfl, rfl, rfl, rfl, rfl, rfl, rfl, rfl⟩, ad, twU, tw, duE, ed, by rw [zq]; show n1 <= 1 + min (pl + 0) _; omega⟩ ?_ ?_
  ·clear two6 ad tw ed
   rintro i σ H5 hi ⟨u', v', n1, n2, ⟨v11, v13, rfl⟩, two, l1, l2, adu, adv, twu, twv, edu, edv, l3⟩
   rw [yf]
   have i60 : i < 60 := by omega
   refine ⟨_, rfl, _, rfl, lr, _, rfl, .inl (SqL.of (two.sm _ _ kr0)), _, _, rfl, rfl, _, rfl, iteA (fun σ H6 => ∃ u' n1, (∃ v11, σ = [some (.ref sa), some (.ref p), some (.ref b), some (.ref ll), some (.int (((ls.map fun x => V.ref x.1).length : Nat) : Int)), some (.ref dl), some (.ref sl), some (.ref kl), some (.ref u.x), some (.ref v.x), some (.int (pl : Int)), v11, some (.ref lr), some (.int (i : Int))]) /\ Two a.c_Trip H2 H6 u' v' rooms tr tm ps n1 n2 /\ n1 <= 1 + (i + 1) /\ SameAd u u' /\ Twin u' (runT (ps.map (·.2)) (newTr lk ps.length) (zs.take (i + 1))) /\ u'.ds = ((zs.take (i + 1)).map fun y => V.ref y.1)) ?_ ?_ ?_⟩
   rotate_left
   ·intro c kk
    have c2 : (i : Int) < (((zs.map fun z => V.ref z.1).length : Nat) : Int) := of_decide_eq_true c
    rw [lenz] at c2
    obtain ⟨z, hz⟩ : ∃ z, zs[i]? = some z := ⟨_, zE (by omega)⟩
    have cd : codeT rooms (ps.map (·.2)) u' z.2 = 8 := by rw [twu.code]; exact rokz.at i z hz
    refine ⟨_, rfl, _, rfl, _, rfl, lr, _, _, _, rfl, rfl, SqL.of (two.sm _ _ kr0), xM (by rw [zC, hz]; rfl), u', .ref z.1, rooms, tr, tm, ps, n1, (by rw [adu.x]; rfl), two.kt, by omega, .inl ⟨z.2, ⟨z.1, rfl, two.sm _ _ (dz0 z (zD hz))⟩, fun _ HB kp kB => ⟨rfl, _, rfl, iteB0 rfl (kk _ _ ?_)⟩, fun c => absurd cd c⟩⟩
    have adT := doneT_ad u' (ps.map (·.2)) (.ref z.1) z.2
    exact ⟨_, n1 + 1, ⟨_, rfl⟩, two.doT adT kp kB, by omega, ⟨adT.x.trans adu.x, adT.b.trans adu.b, adT.lL.trans adu.lL, adT.lH.trans adu.lH, adT.lA.trans adu.lA, adT.lP.trans adu.lP, adT.lD.trans adu.lD, adT.ls.trans adu.ls, adT.hs.trans adu.hs⟩, by rw [xR hz, runT_snoc]; exact twu.done z.2, by rw [doneT_ds, edu, xR hz, zL]; rfl⟩
   ·intro c
    have c2 : ¬ (i : Int) < (((zs.map fun z => V.ref z.1).length : Nat) : Int) := of_decide_eq_false c
    rw [lenz] at c2
    have e1 : zs.take (i + 1) = zs.take i := by rw [zd (by omega), zd (by omega)]
    exact ⟨u', n1, ⟨_, rfl⟩, two, by omega, adu, by rw [e1]; exact twu, by rw [e1]; exact edu⟩
   clear two adu twu edu l1
   rintro σ H6 ⟨u', n1, ⟨v11, rfl⟩, two, l1, adu, twu, edu⟩
   have epi : pl + (i + 1) = pl + i + 1 := by omega
   refine ⟨_, rfl, _, rfl, _, _, rfl, rfl, _, rfl, dl, _, rfl, .inl (SqL.of (two.sm _ _ kdl0)), _, _, rfl, rfl, _, rfl, iteA (fun σ H7 => ∃ u' v' n1 n2, (∃ v11 v13, σ = [some (.ref sa), some (.ref p), some (.ref b), some (.ref ll), some (.int (((ls.map fun x => V.ref x.1).length : Nat) : Int)), some (.ref dl), some (.ref sl), some (.ref kl), some (.ref u.x), some (.ref v.x), some (.int (pl : Int)), v11, some (.ref lr), v13]) /\ Two a.c_Trip H2 H7 u' v' rooms tr tm ps n1 n2 /\ n1 <= 1 + (i + 1) /\ n2 <= 61 /\ SameAd u u' /\ SameAd v v' /\ Twin u' (runT (ps.map (·.2)) (newTr lk ps.length) (zs.take (i + 1))) /\ Twin v' (runT (ps.map (·.2)) (newTr ls ps.length) (ys.take (pl + (i + 1)))) /\ u'.ds = ((zs.take (i + 1)).map fun y => V.ref y.1) /\ v'.ds = ((ys.take (pl + (i + 1))).map fun y => V.ref y.1) /\ n2 <= 1 + (ys.take (pl + (i + 1))).length) (fun _ _ h => h) ?_ ?_⟩
   ·intro c kk
    have c2 : (pl : Int) + (i : Int) < (((ys.map fun z => V.ref z.1).length : Nat) : Int) := of_decide_eq_true c
    rw [leny] at c2
    have c3 : pl + i < ys.length := by omega
    obtain ⟨y, hy⟩ : ∃ y, ys[pl + i]? = some y := ⟨_, zE c3⟩
    have cd : codeT rooms (ps.map (·.2)) v' y.2 = 8 := by rw [twv.code]; exact rok.at (pl + i) y hy
    have l4 : (ys.take (pl + i)).length = pl + i := by rw [zq]; omega
    have aty : atI (ys.map fun y => V.ref y.1) ((pl : Int) + (i : Int)) = some (V.ref y.1) := by
     rw [show (pl : Int) + (i : Int) = ((pl + i : Nat) : Int) by omega]
     exact xM (by rw [zC, hy]; rfl)
    refine ⟨_, rfl, _, rfl, _, rfl, _, rfl, _, _, rfl, rfl, dl, _, _, _, rfl, rfl, SqL.of (two.sm _ _ kdl0), aty, v', .ref y.1, rooms, tr, tm, ps, n2, (by rw [adv.x]; rfl), two.ku, by omega, .inl ⟨y.2, ⟨y.1, rfl, two.sm _ _ (dsy0 y (zD hy))⟩, fun _ HB kp kB => ⟨rfl, _, rfl, iteB0 rfl (kk _ _ ?_)⟩, fun c => absurd cd c⟩⟩
    have adT := doneT_ad v' (ps.map (·.2)) (.ref y.1) y.2
    exact ⟨u', _, n1, n2 + 1, ⟨_, _, rfl⟩, (two.swap.doT adT kp kB).swap, l1, by omega, adu, ⟨adT.x.trans adv.x, adT.b.trans adv.b, adT.lL.trans adv.lL, adT.lH.trans adv.lH, adT.lA.trans adv.lA, adT.lP.trans adv.lP, adT.lD.trans adv.lD, adT.ls.trans adv.ls, adT.hs.trans adv.hs⟩, twu, by rw [epi, xR hy, runT_snoc]; exact twv.done y.2, edu, by rw [doneT_ds, edv, epi, xR hy, zL]; rfl, by rw [epi, xR hy, zT]; show _ <= 1 + (_ + 1); omega⟩
   ·intro c
    have c2 : ¬ (pl : Int) + (i : Int) < (((ys.map fun z => V.ref z.1).length : Nat) : Int) := of_decide_eq_false c
    rw [leny] at c2
    have e1 : ys.take (pl + (i + 1)) = ys.take (pl + i) := by rw [zd (by omega), zd (by omega)]
    exact ⟨u', v', n1, n2, ⟨_, _, rfl⟩, two, l1, l2, adu, adv, twu, by rw [e1]; exact twv, edu, by rw [e1]; exact edv, by rw [e1]; exact l3⟩
  clear two6 ad tw ed ln1
  rintro σ H5 ⟨u', v', n1, n2, ⟨v11, v13, rfl⟩, two, l1, l2, adu, adv, twu, twv, edu, edv, l3⟩
  rw [zd m1] at twu edu
  rw [zd m2] at twv edv l3
  obtain ⟨sp, hsp⟩ : ∃ sp, sns[ys.length]? = some sp := ⟨_, zE (by omega)⟩
  have lens : (sns.map V.ref).length = ys.length + 1 := by rw [zA]; exact lsn
  have atE : atI (sns.map V.ref) (-1) = some (V.ref sp) := atI_end lens (by rw [zC, hsp]; rfl)
  have seE := seen2 ys.length sp hsp
  rw [z4] at seE
  have snE := Twin.sn twv (by rw [edv, runT_ds]; rfl) rooms.length
  refine ⟨_, rfl, _, rfl, _, rfl, v', rooms, tr, tm, ps, n2, (by rw [adv.x, adv.b, adv.ls, vb, vl, lenl]; rfl), two.ku, by omega, fun s2 HG sG fG seG => ?_⟩
  replace two := two.same sG
  refine ⟨_, rfl, _, rfl, sl, _, _, _, rfl, rfl, SqL.of (two.sm _ _ ksl0), atE, SeenAt.ne (seG.same cut_le) (by rw [snE]; exact seE.same two.sm) (by show ∀ x ∈ v'.ds, _; rw [edv]; exact rdy _) ⟨_, rfl, iteB0 rfl ?_⟩⟩
  have sub := subz.twin twu two.kt.lh two.kt.lo
  have tls : (runT (ps.map (·.2)) (newTr ls ps.length) ys).ls.length <= 41 := by rw [<- twv.ls, adv.ls, vl]; exact n41
  exact ⟨_, rfl, _, rfl, _, rfl, sl, _, _, _, rfl, rfl, SqL.of (two.sm _ _ ksl0), atE, _, rfl, u', runT (ps.map (·.2)) (newTr ls ps.length) ys, sp, kl, ks, ys, zs, rooms, tr, tm, ps, n1, (by rw [adu.x]; rfl), two.kt, by omega, seE.same two.sm, sub, knd, k41, tls, two.sm _ _ kkl0, (by rw [runT_ds]; rfl), dsy0.same two.sm, dlet, y60, edu, dz0.same two.sm, ez, fun HZ sZ => q _⟩
end
theorem all_mk {l : PySem.W.OpenLaw} {w : World} {K : PySem.W.Frag} {h : Heap} {mg : Str -> Option Value} {fa f__law_purse f__law_take f__law_far f__law_rooms f__law_step f__law_meetings f__law_book f__law_time f__law_letter f__law_letters f_is_whole f_is_within f_is_below f_is_meeting_number f_is_walker f_other_at f_are_wholes f_is_passing f_is_drop f_Trip_takes_room f_Trip_note_arrival f_Trip___init__ f_Trip_having f_Trip_bag f_Trip_come f_Trip_done f_Trip_need_letter f_Trip_need_drop f_Trip_need_passing f_Trip_pass_on f_Trip_do f__law_any f__law_wild f__law_likely f__law_noted f__law_does f__law_seen f__law_told_here f__law_apart f__law_right f_law c_HasIt c_MeetError c_NoBook c_NoClaim c_NoDay c_NoDeed c_NoLetter c_NoMeeting c_NoName c_NoPass c_NoRoom c_NoRow c_NoRule c_NoText c_NoWalker c_NotThere c_TooMany c_Trip c_Twice : Addr} (X : K.In h) (G : h.Ns mainGlobals mg) (hfa : mg "law" = some (.ref fa))
  {d__law_purse d__law_take d__law_far d__law_rooms d__law_step d__law_meetings d__law_book d__law_time d__law_letter d__law_letters d_is_whole d_is_within d_is_below d_is_meeting_number d_is_walker d_other_at d_are_wholes d_is_passing d_is_drop d_Trip_takes_room d_Trip_note_arrival d_Trip___init__ d_Trip_having d_Trip_bag d_Trip_come d_Trip_done d_Trip_need_letter d_Trip_need_drop d_Trip_need_passing d_Trip_pass_on d_Trip_do d__law_any d__law_wild d__law_likely d__law_noted d__law_does d__law_seen d__law_told_here d__law_apart d__law_right d_law : FuncData}
  (a__law_purse : zH K mainGlobals "_law_purse" = some (some (.ref f__law_purse))) (F__law_purse : Fun K "_law_purse" "_law_purse" s__law_purse f__law_purse d__law_purse)
  (a__law_take : zH K mainGlobals "_law_take" = some (some (.ref f__law_take))) (F__law_take : Fun K "_law_take" "_law_take" s__law_take f__law_take d__law_take)
  (a__law_far : zH K mainGlobals "_law_far" = some (some (.ref f__law_far))) (F__law_far : Fun K "_law_far" "_law_far" s__law_far f__law_far d__law_far)
  (a__law_rooms : zH K mainGlobals "_law_rooms" = some (some (.ref f__law_rooms))) (F__law_rooms : Fun K "_law_rooms" "_law_rooms" s__law_rooms f__law_rooms d__law_rooms)
  (a__law_step : zH K mainGlobals "_law_step" = some (some (.ref f__law_step))) (F__law_step : Fun K "_law_step" "_law_step" s__law_step f__law_step d__law_step)
  (a__law_meetings : zH K mainGlobals "_law_meetings" = some (some (.ref f__law_meetings))) (F__law_meetings : Fun K "_law_meetings" "_law_meetings" xy f__law_meetings d__law_meetings)
  (a__law_book : zH K mainGlobals "_law_book" = some (some (.ref f__law_book))) (F__law_book : Fun K "_law_book" "_law_book" s__law_book f__law_book d__law_book)
  (a__law_time : zH K mainGlobals "_law_time" = some (some (.ref f__law_time))) (F__law_time : Fun K "_law_time" "_law_time" s__law_time f__law_time d__law_time)
  (a__law_letter : zH K mainGlobals "_law_letter" = some (some (.ref f__law_letter))) (F__law_letter : Fun K "_law_letter" "_law_letter" s__law_letter f__law_letter d__law_letter)
  (a__law_letters : zH K mainGlobals "_law_letters" = some (some (.ref f__law_letters))) (F__law_letters : Fun K "_law_letters" "_law_letters" wF f__law_letters d__law_letters)
  (a_is_whole : zH K mainGlobals "is_whole" = some (some (.ref f_is_whole))) (F_is_whole : Fun K "is_whole" "is_whole" s_is_whole f_is_whole d_is_whole)
  (a_is_within : zH K mainGlobals "is_within" = some (some (.ref f_is_within))) (F_is_within : Fun K "is_within" "is_within" s_is_within f_is_within d_is_within)
  (a_is_below : zH K mainGlobals "is_below" = some (some (.ref f_is_below))) (F_is_below : Fun K "is_below" "is_below" s_is_below f_is_below d_is_below)
  (a_is_meeting_number : zH K mainGlobals "is_meeting_number" = some (some (.ref f_is_meeting_number))) (F_is_meeting_number : Fun K "is_meeting_number" "is_meeting_number" xr f_is_meeting_number d_is_meeting_number)
  (a_is_walker : zH K mainGlobals "is_walker" = some (some (.ref f_is_walker))) (F_is_walker : Fun K "is_walker" "is_walker" s_is_walker f_is_walker d_is_walker)
  (a_other_at : zH K mainGlobals "other_at" = some (some (.ref f_other_at))) (F_other_at : Fun K "other_at" "other_at" s_other_at f_other_at d_other_at)
  (a_are_wholes : zH K mainGlobals "are_wholes" = some (some (.ref f_are_wholes))) (F_are_wholes : Fun K "are_wholes" "are_wholes" s_are_wholes f_are_wholes d_are_wholes)
  (a_is_passing : zH K mainGlobals "is_passing" = some (some (.ref f_is_passing))) (F_is_passing : Fun K "is_passing" "is_passing" s_is_passing f_is_passing d_is_passing)
  (a_is_drop : zH K mainGlobals "is_drop" = some (some (.ref f_is_drop))) (F_is_drop : Fun K "is_drop" "is_drop" s_is_drop f_is_drop d_is_drop)
  (a_Trip_takes_room : zP K (.ref c_Trip) "takes_room" = some (some (.ref f_Trip_takes_room))) (j_Trip_takes_room : zn K (.ref f_Trip_takes_room) = true) (F_Trip_takes_room : Fun K "takes_room" "Trip.takes_room" wG f_Trip_takes_room d_Trip_takes_room)
  (a_Trip_note_arrival : zP K (.ref c_Trip) "note_arrival" = some (some (.ref f_Trip_note_arrival))) (j_Trip_note_arrival : zn K (.ref f_Trip_note_arrival) = true) (F_Trip_note_arrival : Fun K "note_arrival" "Trip.note_arrival" xt f_Trip_note_arrival d_Trip_note_arrival)
  (a_Trip___init__ : zP K (.ref c_Trip) "__init__" = some (some (.ref f_Trip___init__))) (j_Trip___init__ : zn K (.ref f_Trip___init__) = true) (F_Trip___init__ : Fun K "__init__" "Trip.__init__" xY f_Trip___init__ d_Trip___init__)
  (a_Trip_having : zP K (.ref c_Trip) "having" = some (some (.ref f_Trip_having))) (j_Trip_having : zn K (.ref f_Trip_having) = true) (F_Trip_having : Fun K "having" "Trip.having" s_Trip_having f_Trip_having d_Trip_having)
  (a_Trip_bag : zP K (.ref c_Trip) "bag" = some (some (.ref f_Trip_bag))) (j_Trip_bag : zn K (.ref f_Trip_bag) = true) (F_Trip_bag : Fun K "bag" "Trip.bag" s_Trip_bag f_Trip_bag d_Trip_bag)
  (a_Trip_come : zP K (.ref c_Trip) "come" = some (some (.ref f_Trip_come))) (j_Trip_come : zn K (.ref f_Trip_come) = true) (F_Trip_come : Fun K "come" "Trip.come" s_Trip_come f_Trip_come d_Trip_come)
  (a_Trip_done : zP K (.ref c_Trip) "done" = some (some (.ref f_Trip_done))) (j_Trip_done : zn K (.ref f_Trip_done) = true) (F_Trip_done : Fun K "done" "Trip.done" s_Trip_done f_Trip_done d_Trip_done)
  (a_Trip_need_letter : zP K (.ref c_Trip) "need_letter" = some (some (.ref f_Trip_need_letter))) (j_Trip_need_letter : zn K (.ref f_Trip_need_letter) = true) (F_Trip_need_letter : Fun K "need_letter" "Trip.need_letter" x8 f_Trip_need_letter d_Trip_need_letter)
  (a_Trip_need_drop : zP K (.ref c_Trip) "need_drop" = some (some (.ref f_Trip_need_drop))) (j_Trip_need_drop : zn K (.ref f_Trip_need_drop) = true) (F_Trip_need_drop : Fun K "need_drop" "Trip.need_drop" s_Trip_need_drop f_Trip_need_drop d_Trip_need_drop)
  (a_Trip_need_passing : zP K (.ref c_Trip) "need_passing" = some (some (.ref f_Trip_need_passing))) (j_Trip_need_passing : zn K (.ref f_Trip_need_passing) = true) (F_Trip_need_passing : Fun K "need_passing" "Trip.need_passing" xu f_Trip_need_passing d_Trip_need_passing)
  (a_Trip_pass_on : zP K (.ref c_Trip) "pass_on" = some (some (.ref f_Trip_pass_on))) (j_Trip_pass_on : zn K (.ref f_Trip_pass_on) = true) (F_Trip_pass_on : Fun K "pass_on" "Trip.pass_on" s_Trip_pass_on f_Trip_pass_on d_Trip_pass_on)
  (a_Trip_do : zP K (.ref c_Trip) "do" = some (some (.ref f_Trip_do))) (j_Trip_do : zn K (.ref f_Trip_do) = true) (F_Trip_do : Fun K "do" "Trip.do" s_Trip_do f_Trip_do d_Trip_do)
  (a__law_any : zH K mainGlobals "_law_any" = some (some (.ref f__law_any))) (F__law_any : Fun K "_law_any" "_law_any" s__law_any f__law_any d__law_any)
  (a__law_wild : zH K mainGlobals "_law_wild" = some (some (.ref f__law_wild))) (F__law_wild : Fun K "_law_wild" "_law_wild" s__law_wild f__law_wild d__law_wild)
  (a__law_likely : zH K mainGlobals "_law_likely" = some (some (.ref f__law_likely))) (F__law_likely : Fun K "_law_likely" "_law_likely" s__law_likely f__law_likely d__law_likely)
  (a__law_noted : zH K mainGlobals "_law_noted" = some (some (.ref f__law_noted))) (F__law_noted : Fun K "_law_noted" "_law_noted" s__law_noted f__law_noted d__law_noted)
  (a__law_does : zH K mainGlobals "_law_does" = some (some (.ref f__law_does))) (F__law_does : Fun K "_law_does" "_law_does" s__law_does f__law_does d__law_does)
  (a__law_seen : zH K mainGlobals "_law_seen" = some (some (.ref f__law_seen))) (F__law_seen : Fun K "_law_seen" "_law_seen" wA f__law_seen d__law_seen)
  (a__law_told_here : zH K mainGlobals "_law_told_here" = some (some (.ref f__law_told_here))) (F__law_told_here : Fun K "_law_told_here" "_law_told_here" xp f__law_told_here d__law_told_here)
  (a__law_apart : zH K mainGlobals "_law_apart" = some (some (.ref f__law_apart))) (F__law_apart : Fun K "_law_apart" "_law_apart" s__law_apart f__law_apart d__law_apart)
  (a__law_right : zH K mainGlobals "_law_right" = some (some (.ref f__law_right))) (F__law_right : Fun K "_law_right" "_law_right" s__law_right f__law_right d__law_right)
  (a_law : zH K mainGlobals "law" = some (some (.ref f_law))) (F_law : Fun K "law" "law" s_law f_law d_law)
  (z_ValueError : zH K mainGlobals "ValueError" = some none)
  (z_all : zH K mainGlobals "all" = some none)
  (z_bool : zH K mainGlobals "bool" = some none)
  (z_enumerate : zH K mainGlobals "enumerate" = some none)
  (z_int : zH K mainGlobals "int" = some none)
  (z_isinstance : zH K mainGlobals "isinstance" = some none)
  (z_len : zH K mainGlobals "len" = some none)
  (z_list : zH K mainGlobals "list" = some none)
  (z_max : zH K mainGlobals "max" = some none)
  (z_min : zH K mainGlobals "min" = some none)
  (z_range : zH K mainGlobals "range" = some none)
  (z_sorted : zH K mainGlobals "sorted" = some none)
  (z_tuple : zH K mainGlobals "tuple" = some none)
  (e_HasIt : zH K mainGlobals "HasIt" = some (some (.ref c_HasIt)))
  (e_MeetError : zH K mainGlobals "MeetError" = some (some (.ref c_MeetError)))
  (e_NoBook : zH K mainGlobals "NoBook" = some (some (.ref c_NoBook)))
  (e_NoClaim : zH K mainGlobals "NoClaim" = some (some (.ref c_NoClaim)))
  (e_NoDay : zH K mainGlobals "NoDay" = some (some (.ref c_NoDay)))
  (e_NoDeed : zH K mainGlobals "NoDeed" = some (some (.ref c_NoDeed)))
  (e_NoLetter : zH K mainGlobals "NoLetter" = some (some (.ref c_NoLetter)))
  (e_NoMeeting : zH K mainGlobals "NoMeeting" = some (some (.ref c_NoMeeting)))
  (e_NoName : zH K mainGlobals "NoName" = some (some (.ref c_NoName)))
  (e_NoPass : zH K mainGlobals "NoPass" = some (some (.ref c_NoPass)))
  (e_NoRoom : zH K mainGlobals "NoRoom" = some (some (.ref c_NoRoom)))
  (e_NoRow : zH K mainGlobals "NoRow" = some (some (.ref c_NoRow)))
  (e_NoRule : zH K mainGlobals "NoRule" = some (some (.ref c_NoRule)))
  (e_NoText : zH K mainGlobals "NoText" = some (some (.ref c_NoText)))
  (e_NoWalker : zH K mainGlobals "NoWalker" = some (some (.ref c_NoWalker)))
  (e_NotThere : zH K mainGlobals "NotThere" = some (some (.ref c_NotThere)))
  (e_TooMany : zH K mainGlobals "TooMany" = some (some (.ref c_TooMany)))
  (e_Trip : zH K mainGlobals "Trip" = some (some (.ref c_Trip)))
  (e_Twice : zH K mainGlobals "Twice" = some (some (.ref c_Twice)))
  (pg_Trip : yb K c_Trip Str.empty = true) (hd_Trip : PySem.W.hasDictIn K c_Trip = true) (po_Trip : PySem.W.plainOver K c_Trip = true) (sa_Trip : zP K (.ref c_Trip) "__setattr__" = some (some (.builtin "object.__setattr__")))
  (mk_Trip : PySem.W.makesIn K c_Trip = true) (kc_Trip : zI K (.ref c_Trip) = true)
  (nf_Trip_book : zP K (.ref c_Trip) "book" = some none)
  (nf_Trip_letters : zP K (.ref c_Trip) "letters" = some none)
  (nf_Trip_holders : zP K (.ref c_Trip) "holders" = some none)
  (nf_Trip_arrivals : zP K (.ref c_Trip) "arrivals" = some none)
  (nf_Trip_passed : zP K (.ref c_Trip) "passed" = some none)
  (nf_Trip_reached : zP K (.ref c_Trip) "reached" = some none)
  (nf_Trip_deeds : zP K (.ref c_Trip) "deeds" = some none)
  (xx_NoDeed : xclsB K c_NoDeed = true)
  (xx_NoMeeting : xclsB K c_NoMeeting = true)
  (xx_NoLetter : xclsB K c_NoLetter = true)
  (xx_NoWalker : xclsB K c_NoWalker = true)
  (xx_NotThere : xclsB K c_NotThere = true)
  (xx_HasIt : xclsB K c_HasIt = true)
  (xx_NoPass : xclsB K c_NoPass = true)
  (xx_NoRoom : xclsB K c_NoRoom = true)
  (ff_f_xc : xcB K ⟨c_NoDeed, c_NoMeeting, c_NoLetter, c_NoWalker, c_NotThere, c_HasIt, c_NoPass, c_NoRoom⟩ c_MeetError [c_NoBook, c_NoRule, c_TooMany, c_NoDay, c_NoClaim, c_NoText, c_NoRow, c_NoName, c_Twice] = true) :
  ∃ fd : FuncData, (∀ (s : Shared) (v : Value), BindsTo s fd ⟨[v], []⟩ [("_law_script", v)]) /\ ∀ base : Heap, K.In base -> base.Ns mainGlobals mg -> FnOk l.prog w K mg base CX0 8 fa fd ["_law_script"] (spLaw K) := by
 have e := hfa.symm.trans (zK X G a_law)
 cases e
 have b__law_purse := F__law_purse.binds (ps := ["_law_script", "_law_k"]) fun _ _ _ _ _ _ us hl => us2 hl fun _ _ => rfl
 have b__law_take := F__law_take.binds (ps := ["_law_purse_here", "_law_many"]) fun _ _ _ _ _ _ us hl => us2 hl fun _ _ => rfl
 have b__law_far := F__law_far.binds (ps := ["_law_purse_here"]) fun _ _ _ _ _ _ us hl => us1 hl fun _ => rfl
 have b__law_rooms := F__law_rooms.binds (ps := ["_law_purse_here", "_law_walkers"]) fun _ _ _ _ _ _ us hl => us2 hl fun _ _ => rfl
 have b__law_step := F__law_step.binds (ps := ["_law_purse_here"]) fun _ _ _ _ _ _ us hl => us1 hl fun _ => rfl
 have b__law_meetings := F__law_meetings.binds (ps := ["_law_purse_here", "_law_walkers", "_law_most"]) fun _ _ _ _ _ _ us hl => us3 hl fun _ _ _ => rfl
 have b__law_book := F__law_book.binds (ps := ["_law_purse_here", "_law_most_walkers", "_law_most_meetings"]) fun _ _ _ _ _ _ us hl => us3 hl fun _ _ _ => rfl
 have b__law_time := F__law_time.binds (ps := ["_law_purse_here", "_law_book_here", "_law_later"]) fun _ _ _ _ _ _ us hl => us3 hl fun _ _ _ => rfl
 have b__law_letter := F__law_letter.binds (ps := ["_law_purse_here", "_law_book_here"]) fun _ _ _ _ _ _ us hl => us2 hl fun _ _ => rfl
 have b__law_letters := F__law_letters.binds (ps := ["_law_purse_here", "_law_book_here"]) fun _ _ _ _ _ _ us hl => us2 hl fun _ _ => rfl
 have b_is_whole := F_is_whole.binds (ps := ["thing"]) fun _ _ _ _ _ _ us hl => us1 hl fun _ => rfl
 have b_is_within := F_is_within.binds (ps := ["thing", "least", "most"]) fun _ _ _ _ _ _ us hl => us3 hl fun _ _ _ => rfl
 have b_is_below := F_is_below.binds (ps := ["number", "bound"]) fun _ _ _ _ _ _ us hl => us2 hl fun _ _ => rfl
 have b_is_meeting_number := F_is_meeting_number.binds (ps := ["book", "thing"]) fun _ _ _ _ _ _ us hl => us2 hl fun _ _ => rfl
 have b_is_walker := F_is_walker.binds (ps := ["book", "thing"]) fun _ _ _ _ _ _ us hl => us2 hl fun _ _ => rfl
 have b_other_at := F_other_at.binds (ps := ["book", "number", "walker"]) fun _ _ _ _ _ _ us hl => us3 hl fun _ _ _ => rfl
 have b_are_wholes := F_are_wholes.binds (ps := ["things"]) fun _ _ _ _ _ _ us hl => us1 hl fun _ => rfl
 have b_is_passing := F_is_passing.binds (ps := ["thing"]) fun _ _ _ _ _ _ us hl => us1 hl fun _ => rfl
 have b_is_drop := F_is_drop.binds (ps := ["thing"]) fun _ _ _ _ _ _ us hl => us1 hl fun _ => rfl
 have b_Trip_takes_room := F_Trip_takes_room.binds (ps := ["self", "letter", "walker"]) fun _ _ _ _ _ _ us hl => us3 hl fun _ _ _ => rfl
 have b_Trip_note_arrival := F_Trip_note_arrival.binds (ps := ["self", "letter", "walker", "time"]) fun _ _ _ _ _ _ us hl => us4 hl fun _ _ _ _ => rfl
 have b_Trip___init__ := F_Trip___init__.binds (ps := ["self", "book", "letters"]) fun _ _ _ _ _ _ us hl => us3 hl fun _ _ _ => rfl
 have b_Trip_having := F_Trip_having.binds (ps := ["self", "letter"]) fun _ _ _ _ _ _ us hl => us2 hl fun _ _ => rfl
 have b_Trip_bag := F_Trip_bag.binds (ps := ["self", "walker"]) fun _ _ _ _ _ _ us hl => us2 hl fun _ _ => rfl
 have b_Trip_come := F_Trip_come.binds (ps := ["self", "letter"]) fun _ _ _ _ _ _ us hl => us2 hl fun _ _ => rfl
 have b_Trip_done := F_Trip_done.binds (ps := ["self"]) fun _ _ _ _ _ _ us hl => us1 hl fun _ => rfl
 have b_Trip_need_letter := F_Trip_need_letter.binds (ps := ["self", "letter"]) fun _ _ _ _ _ _ us hl => us2 hl fun _ _ => rfl
 have b_Trip_need_drop := F_Trip_need_drop.binds (ps := ["self", "letter", "walker"]) fun _ _ _ _ _ _ us hl => us3 hl fun _ _ _ => rfl
 have b_Trip_need_passing := F_Trip_need_passing.binds (ps := ["self", "meeting", "letter", "giver"]) fun _ _ _ _ _ _ us hl => us4 hl fun _ _ _ _ => rfl
 have b_Trip_pass_on := F_Trip_pass_on.binds (ps := ["self", "meeting", "letter", "giver"]) fun _ _ _ _ _ _ us hl => us4 hl fun _ _ _ _ => rfl
 have b_Trip_do := F_Trip_do.binds (ps := ["self", "deed"]) fun _ _ _ _ _ _ us hl => us2 hl fun _ _ => rfl
 have b__law_any := F__law_any.binds (ps := ["_law_purse_here", "_law_many"]) fun _ _ _ _ _ _ us hl => us2 hl fun _ _ => rfl
 have b__law_wild := F__law_wild.binds (ps := ["_law_purse_here", "_law_book_here", "_law_many"]) fun _ _ _ _ _ _ us hl => us3 hl fun _ _ _ => rfl
 have b__law_likely := F__law_likely.binds (ps := ["_law_purse_here", "_law_book_here", "_law_holders", "_law_at"]) fun _ _ _ _ _ _ us hl => us4 hl fun _ _ _ _ => rfl
 have b__law_noted := F__law_noted.binds (ps := ["_law_book_here", "_law_holders", "_law_deed"]) fun _ _ _ _ _ _ us hl => us3 hl fun _ _ _ => rfl
 have b__law_does := F__law_does.binds (ps := ["_law_trip", "_law_deed"]) fun _ _ _ _ _ _ us hl => us2 hl fun _ _ => rfl
 have b__law_seen := F__law_seen.binds (ps := ["_law_trip", "_law_book_here", "_law_many"]) fun _ _ _ _ _ _ us hl => us3 hl fun _ _ _ => rfl
 have b__law_told_here := F__law_told_here.binds (ps := ["_law_script", "_law_book_here", "_law_letters_here"]) fun _ _ _ _ _ _ us hl => us3 hl fun _ _ _ => rfl
 have b__law_apart := F__law_apart.binds (ps := ["_law_deeds", "_law_kept"]) fun _ _ _ _ _ _ us hl => us2 hl fun _ _ => rfl
 have b__law_right := F__law_right.binds (ps := ["_law_second", "_law_seen_here", "_law_kept"]) fun _ _ _ _ _ _ us hl => us3 hl fun _ _ _ => rfl
 have b_law := F_law.binds (ps := ["_law_script"]) fun _ _ _ _ _ _ us hl => us1 hl fun _ => rfl
 have T : Tx K mg ⟨f__law_purse, d__law_purse, f__law_take, d__law_take, f__law_far, d__law_far, f__law_rooms, d__law_rooms, f__law_step, d__law_step, f__law_meetings, d__law_meetings, f__law_book, d__law_book, f__law_time, d__law_time, f__law_letter, d__law_letter, f__law_letters, d__law_letters, f_is_whole, d_is_whole, f_is_within, d_is_within, f_is_below, d_is_below, f_is_meeting_number, d_is_meeting_number, f_is_walker, d_is_walker, f_other_at, d_other_at, f_are_wholes, d_are_wholes, f_is_passing, d_is_passing, f_is_drop, d_is_drop, f_Trip_takes_room, d_Trip_takes_room, f_Trip_note_arrival, d_Trip_note_arrival, f_Trip___init__, d_Trip___init__, f_Trip_having, d_Trip_having, f_Trip_bag, d_Trip_bag, f_Trip_come, d_Trip_come, f_Trip_done, d_Trip_done, f_Trip_need_letter, d_Trip_need_letter, f_Trip_need_drop, d_Trip_need_drop, f_Trip_need_passing, d_Trip_need_passing, f_Trip_pass_on, d_Trip_pass_on, f_Trip_do, d_Trip_do, f__law_any, d__law_any, f__law_wild, d__law_wild, f__law_likely, d__law_likely, f__law_noted, d__law_noted, f__law_does, d__law_does, f__law_seen, d__law_seen, f__law_told_here, d__law_told_here, f__law_apart, d__law_apart, f__law_right, d__law_right, fa, d_law, c_HasIt, c_MeetError, c_NoBook, c_NoClaim, c_NoDay, c_NoDeed, c_NoLetter, c_NoMeeting, c_NoName, c_NoPass, c_NoRoom, c_NoRow, c_NoRule, c_NoText, c_NoWalker, c_NotThere, c_TooMany, c_Trip, c_Twice⟩ := ⟨F__law_purse, b__law_purse, zK X G a__law_purse, F__law_purse.kp, F__law_take, b__law_take, zK X G a__law_take, F__law_take.kp, F__law_far, b__law_far, zK X G a__law_far, F__law_far.kp, F__law_rooms, b__law_rooms, zK X G a__law_rooms, F__law_rooms.kp, F__law_step, b__law_step, zK X G a__law_step, F__law_step.kp, F__law_meetings, b__law_meetings, zK X G a__law_meetings, F__law_meetings.kp, F__law_book, b__law_book, zK X G a__law_book, F__law_book.kp, F__law_time, b__law_time, zK X G a__law_time, F__law_time.kp, F__law_letter, b__law_letter, zK X G a__law_letter, F__law_letter.kp, F__law_letters, b__law_letters, zK X G a__law_letters, F__law_letters.kp, F_is_whole, b_is_whole, zK X G a_is_whole, F_is_whole.kp, F_is_within, b_is_within, zK X G a_is_within, F_is_within.kp, F_is_below, b_is_below, zK X G a_is_below, F_is_below.kp, F_is_meeting_number, b_is_meeting_number, zK X G a_is_meeting_number, F_is_meeting_number.kp, F_is_walker, b_is_walker, zK X G a_is_walker, F_is_walker.kp, F_other_at, b_other_at, zK X G a_other_at, F_other_at.kp, F_are_wholes, b_are_wholes, zK X G a_are_wholes, F_are_wholes.kp, F_is_passing, b_is_passing, zK X G a_is_passing, F_is_passing.kp, F_is_drop, b_is_drop, zK X G a_is_drop, F_is_drop.kp, F_Trip_takes_room, b_Trip_takes_room, ⟨a_Trip_takes_room, j_Trip_takes_room, F_Trip_takes_room.kp⟩, F_Trip_takes_room.kp, F_Trip_note_arrival, b_Trip_note_arrival, ⟨a_Trip_note_arrival, j_Trip_note_arrival, F_Trip_note_arrival.kp⟩, F_Trip_note_arrival.kp, F_Trip___init__, b_Trip___init__, ⟨a_Trip___init__, j_Trip___init__, F_Trip___init__.kp⟩, F_Trip___init__.kp, F_Trip_having, b_Trip_having, ⟨a_Trip_having, j_Trip_having, F_Trip_having.kp⟩, F_Trip_having.kp, F_Trip_bag, b_Trip_bag, ⟨a_Trip_bag, j_Trip_bag, F_Trip_bag.kp⟩, F_Trip_bag.kp, F_Trip_come, b_Trip_come, ⟨a_Trip_come, j_Trip_come, F_Trip_come.kp⟩, F_Trip_come.kp, F_Trip_done, b_Trip_done, ⟨a_Trip_done, j_Trip_done, F_Trip_done.kp⟩, F_Trip_done.kp, F_Trip_need_letter, b_Trip_need_letter, ⟨a_Trip_need_letter, j_Trip_need_letter, F_Trip_need_letter.kp⟩, F_Trip_need_letter.kp, F_Trip_need_drop, b_Trip_need_drop, ⟨a_Trip_need_drop, j_Trip_need_drop, F_Trip_need_drop.kp⟩, F_Trip_need_drop.kp, F_Trip_need_passing, b_Trip_need_passing, ⟨a_Trip_need_passing, j_Trip_need_passing, F_Trip_need_passing.kp⟩, F_Trip_need_passing.kp, F_Trip_pass_on, b_Trip_pass_on, ⟨a_Trip_pass_on, j_Trip_pass_on, F_Trip_pass_on.kp⟩, F_Trip_pass_on.kp, F_Trip_do, b_Trip_do, ⟨a_Trip_do, j_Trip_do, F_Trip_do.kp⟩, F_Trip_do.kp, F__law_any, b__law_any, zK X G a__law_any, F__law_any.kp, F__law_wild, b__law_wild, zK X G a__law_wild, F__law_wild.kp, F__law_likely, b__law_likely, zK X G a__law_likely, F__law_likely.kp, F__law_noted, b__law_noted, zK X G a__law_noted, F__law_noted.kp, F__law_does, b__law_does, zK X G a__law_does, F__law_does.kp, F__law_seen, b__law_seen, zK X G a__law_seen, F__law_seen.kp, F__law_told_here, b__law_told_here, zK X G a__law_told_here, F__law_told_here.kp, F__law_apart, b__law_apart, zK X G a__law_apart, F__law_apart.kp, F__law_right, b__law_right, zK X G a__law_right, F__law_right.kp, F_law, b_law, zK X G a_law, F_law.kp, za X G z_ValueError, za X G z_all, za X G z_bool, za X G z_enumerate, za X G z_int, za X G z_isinstance, za X G z_len, za X G z_list, za X G z_max, za X G z_min, za X G z_range, za X G z_sorted, za X G z_tuple, zK X G e_HasIt, zK X G e_MeetError, zK X G e_NoBook, zK X G e_NoClaim, zK X G e_NoDay, zK X G e_NoDeed, zK X G e_NoLetter, zK X G e_NoMeeting, zK X G e_NoName, zK X G e_NoPass, zK X G e_NoRoom, zK X G e_NoRow, zK X G e_NoRule, zK X G e_NoText, zK X G e_NoWalker, zK X G e_NotThere, zK X G e_TooMany, zK X G e_Trip, zK X G e_Twice, XCls.of xx_NoDeed, XCls.of xx_NoMeeting, XCls.of xx_NoLetter, XCls.of xx_NoWalker, XCls.of xx_NotThere, XCls.of xx_HasIt, XCls.of xx_NoPass, XCls.of xx_NoRoom, ⟨pg_Trip, hd_Trip, po_Trip, sa_Trip⟩, ⟨mk_Trip, a_Trip___init__, j_Trip___init__, kc_Trip⟩, nf_Trip_book, nf_Trip_letters, nf_Trip_holders, nf_Trip_arrivals, nf_Trip_passed, nf_Trip_reached, nf_Trip_deeds, ff_f_xc⟩
 obtain ⟨_, _, _, _, _, _, _, _, _, rfl, _, _⟩ := F_law.ex
 exact ⟨_, fun s v => .of_eq rfl, fun base _ _ => ok_law T⟩
theorem walk {l : PySem.W.OpenLaw} {q : Program} {loose : List Str} {XP : (Str -> Option Value) -> Heap -> Prop} {YP : World -> Heap -> Prop} {d : DefRec} {K : Params -> PySem.W.Frag} (hn : l.most = some 63) (hdf : d.params.defaults = [])
  (hY : ∀ (w : World) (h : Heap), YP w h -> (K w.params).In h)
  (F : ∀ (w : World) (mg : Str -> Option Value) (fa : Addr) (h : Heap), (K w.params).In h -> h.Ns mainGlobals mg -> mg d.name = some (.ref fa) ->
   ∃ fd : FuncData, (∀ (s : Shared) (u : Value), BindsTo s fd ⟨[u], []⟩ [("_law_script", u)]) /\ ∀ base : Heap, (K w.params).In base -> base.Ns mainGlobals mg -> FnOk l.prog w (K w.params) mg base CX0 8 fa fd ["_law_script"] (spLaw (K w.params))) :
  PySem.W.WalkO q loose XP YP l.row.toRowW d [] (fun f vs => PySem.call f vs) :=
 L2.walk_of (n := 63) (k := 8) (x := "_law_script") (CX := fun _ => CX0) (sp := fun w => spLaw (K w.params)) hn (by decide) hdf ⟨rfl, by decide, by decide⟩ hY F (fun _ _ a ns hl _ hS => ⟨a, ns, rfl, hS, hl, fun _ => rfl⟩) fun _ _ _ _ _ z => z
end Sm
def PySem.W.Fast.tw7488560295819967376 : Nat := 0
def PySem.W.Fast.tw6653283367299042635 : Nat := 0
def PySem.W.Fast.tw18105994108169252563 : Nat := 0
def PySem.W.Fast.tw11904206777102364349 : Nat := 0
def PySem.W.Fast.tw6090860777888985741 : Nat := 0
def PySem.W.Fast.tw11256781468774587117 : Nat := 0
def PySem.W.Fast.tw11321093590211555846 : Nat := 0
def PySem.W.Fast.tw4409440782010026491 : Nat := 0
def PySem.W.Fast.tw5444628488309003774 : Nat := 0
def PySem.W.Fast.tw4880145493672270406 : Nat := 0
def PySem.W.Fast.tw4756388675008749780 : Nat := 0
def PySem.W.Fast.tw690051553685186254 : Nat := 0
def PySem.W.Fast.tw4287293822450791267 : Nat := 0
def PySem.W.Fast.tw5425665462027222281 : Nat := 0
def PySem.W.Fast.tw9855581010908528494 : Nat := 0
def PySem.W.Fast.tw7663615970898899052 : Nat := 0
def PySem.W.Fast.tw10107751720321952185 : Nat := 0
def PySem.W.Fast.tw6897552050356666378 : Nat := 0
def PySem.W.Fast.tw6171743940500384315 : Nat := 0
def PySem.W.Fast.tw8421710149890094545 : Nat := 0
def PySem.W.Fast.tw15083373121579822578 : Nat := 0
def PySem.W.Fast.tw4212967718124139952 : Nat := 0
def PySem.W.Fast.tw4158959596840238497 : Nat := 0
def PySem.W.Fast.tw1203356282727632361 : Nat := 0
def PySem.W.Fast.tw5268198729663009581 : Nat := 0
def PySem.W.Fast.tw17322296866377407709 : Nat := 0
def PySem.W.Fast.tw15319940146701549878 : Nat := 0
def PySem.W.Fast.tw16130925049891214976 : Nat := 0
def PySem.W.Fast.tw3241441189597720418 : Nat := 0
def PySem.W.Fast.tw8522056335814456116 : Nat := 0
def PySem.W.Fast.tw7080245682328320073 : Nat := 0
def PySem.W.Fast.tw3080646287236896543 : Nat := 0
def PySem.W.Fast.tw4263711172594125113 : Nat := 0
def PySem.W.Fast.tw15958367729296479662 : Nat := 0
def PySem.W.Fast.tw13179919895857482362 : Nat := 0
def PySem.W.Fast.tw2536698358779940138 : Nat := 0
def PySem.W.Fast.tw17797431716822957456 : Nat := 0
def PySem.W.Fast.tw5397927592298312896 : Nat := 0
def PySem.W.Fast.tw17273424689690192988 : Nat := 0
def PySem.W.Fast.tw12345986377672978749 : Nat := 0
def PySem.W.Fast.tw16502744721434030571 : Nat := 0
def PySem.W.Fast.tw5004850619471500110 : Nat := 0
def PySem.W.Fast.tw14584583113723219265 : Nat := 0
def PySem.W.Fast.tw4338135888483227603 : Nat := 0
def PySem.W.Fast.tw2836115667465600258 : Nat := 0
def PySem.W.Fast.tw2295812585120344535 : Nat := 0
def PySem.W.Fast.tw9488978920145428549 : Nat := 0
def PySem.W.Fast.tw6569611059932059912 : Nat := 0
def PySem.W.Fast.tw920516491068033764 : Nat := 0
def PySem.W.Fast.tw14058360816497828891 : Nat := 0
def PySem.W.Fast.tw17962966008511055075 : Nat := 0
def PySem.W.Fast.tw8137273229688530764 : Nat := 0
def PySem.W.Fast.tw4104325370915170824 : Nat := 0
def PySem.W.Fast.tw14765966077612339499 : Nat := 0
def PySem.W.Fast.tw9125708441559579860 : Nat := 0
def PySem.W.Fast.tw1432138003124827225 : Nat := 0
def PySem.W.Fast.tw16955879288116547857 : Nat := 0
def PySem.W.Fast.tw16487727893002857495 : Nat := 0
def PySem.W.Fast.tw8072909507816330722 : Nat := 0
def PySem.W.Fast.tw4055347432018231483 : Nat := 0
def PySem.W.Fast.tw8402536683765429495 : Nat := 0
def PySem.W.Fast.tw635320601039072241 : Nat := 0
def PySem.W.Fast.tw8013321911368888728 : Nat := 0
def PySem.W.Fast.tw10806986396195378880 : Nat := 0
def PySem.W.Fast.tw13695249428031211723 : Nat := 0
def PySem.W.Fast.tw3263279079011255442 : Nat := 0
def PySem.W.Fast.tw1120710576232949973 : Nat := 0
def PySem.W.Fast.tw898877756398380840 : Nat := 0
def PySem.W.Fast.tw7352429932813692496 : Nat := 0
def PySem.W.Fast.tw6030317222993799939 : Nat := 0
def PySem.W.Fast.tw6017034499522288519 : Nat := 0
def PySem.W.Fast.tw1920864328542067189 : Nat := 0
def PySem.W.Fast.tw14621436003456755166 : Nat := 0
def PySem.W.Fast.tw2738338558599989037 : Nat := 0
def PySem.W.Fast.tw16540927241881809996 : Nat := 0
def PySem.W.Fast.tw15685304669360798242 : Nat := 0
def PySem.W.Fast.tw1823367678212357908 : Nat := 0
def PySem.W.Fast.tw4430275866739851353 : Nat := 0
def PySem.W.Fast.tw10692476155181388578 : Nat := 0
def PySem.W.Fast.tw15364554223719321138 : Nat := 0
def PySem.W.Fast.tw8825443081983586874 : Nat := 0
def PySem.W.Fast.tw7913476230940609836 : Nat := 0
def PySem.W.Fast.tw10082740756197402589 : Nat := 0
def PySem.W.Fast.tw14860993516074880313 : Nat := 0
def PySem.W.Fast.tw18042839661229978715 : Nat := 0
def PySem.W.Fast.tw11033406583676683993 : Nat := 0
def PySem.W.Fast.tw15265181626915339740 : Nat := 0
def PySem.W.Fast.tw8273439477987113689 : Nat := 0
def PySem.W.Fast.tw2922425580122427771 : Nat := 0
def PySem.W.Fast.tw5961497420436281320 : Nat := 0
def PySem.W.Fast.tw3507623208632468075 : Nat := 0
def PySem.W.Fast.tw14941399725105584290 : Nat := 0
def PySem.W.Fast.tw13523531098674877862 : Nat := 0
def PySem.W.Fast.tw13503080856906205886 : Nat := 0
def PySem.W.Fast.tw11551842838139043207 : Nat := 0
def PySem.W.Fast.tw7782892818484867933 : Nat := 0
def PySem.W.Fast.tw7720512050496757652 : Nat := 0
def PySem.W.Fast.tw17424113484724778529 : Nat := 0
def PySem.W.Fast.tw17645190147400938956 : Nat := 0
def PySem.W.Fast.tw11540810704836675726 : Nat := 0
def PySem.W.Fast.tw9036602975227138075 : Nat := 0
def PySem.W.Fast.tw10671824369022144459 : Nat := 0
def PySem.W.Fast.tw12499708343394710183 : Nat := 0
def PySem.W.Fast.tw6770331110089573942 : Nat := 0
def PySem.W.Fast.tw7164458036598549547 : Nat := 0
def PySem.W.Fast.tw7334617934476487080 : Nat := 0
def PySem.W.Fast.tw5036126089330345901 : Nat := 0
def PySem.W.Fast.tw1026975821480326162 : Nat := 0
def PySem.W.Fast.tw2277243808530056831 : Nat := 0
def PySem.W.Fast.tw5569616653207363607 : Nat := 0
def PySem.W.Fast.tw9534951107627335056 : Nat := 0
def PySem.W.Fast.tw952020356490899918 : Nat := 0
def PySem.W.Fast.tw1561647600165927737 : Nat := 0
def PySem.W.Fast.tw12248014149865920808 : Nat := 0
def PySem.W.Fast.tw1186762045331409470 : Nat := 0
def PySem.W.Fast.tw7300742242834908746 : Nat := 0
def PySem.W.Fast.tw3456353655479511854 : Nat := 0
def PySem.W.Fast.tw13529216204974499623 : Nat := 0
def PySem.W.Fast.tw11059358108797531965 : Nat := 0
def PySem.W.Fast.tw17497432646439016257 : Nat := 0
def PySem.W.Fast.tw18298390603940875632 : Nat := 0
def PySem.W.Fast.tw16312599007339226705 : Nat := 0
def PySem.W.Fast.tw18030751529986901846 : Nat := 0
def PySem.W.Fast.tw17854495663306995774 : Nat := 0
def PySem.W.Fast.tw8313666021647402087 : Nat := 0
def PySem.W.Fast.tw4617201114423957220 : Nat := 0
def PySem.W.Fast.tw15331574490787949228 : Nat := 0
def PySem.W.Fast.tw12757584047716054784 : Nat := 0
def PySem.W.Fast.tw16743049384513100219 : Nat := 0
def PySem.W.Fast.tw11444139056713022556 : Nat := 0
def PySem.W.Fast.tw15741533508476073868 : Nat := 0
def PySem.W.Fast.tw11173663207105001462 : Nat := 0
def PySem.W.Fast.tw12563397566022679239 : Nat := 0
def PySem.W.Fast.tw17058106015505186856 : Nat := 0
def PySem.W.Fast.tw3180813840543022134 : Nat := 0
def PySem.W.Fast.tw18060998869193372423 : Nat := 0
def PySem.W.Fast.tw14772352933847947331 : Nat := 0
def PySem.W.Fast.tw10258771606750978218 : Nat := 0
def PySem.W.Fast.tw13837848774262912720 : Nat := 0
def PySem.W.Fast.tw10905985840012646865 : Nat := 0
def PySem.W.Fast.tw10402475296624783307 : Nat := 0
def PySem.W.Fast.tw4488802186268006409 : Nat := 0
def PySem.W.Fast.tw13551689061976031934 : Nat := 0
def PySem.W.Fast.tw13174458443304767864 : Nat := 0
def PySem.W.Fast.tw7733699827774558403 : Nat := 0
def PySem.W.Fast.tw4524279199580934763 : Nat := 0
def PySem.W.Fast.tw13086678759958086809 : Nat := 0
def PySem.W.Fast.tw1795849196135802984 : Nat := 0
def PySem.W.Fast.tw3171281326442488808 : Nat := 0
open PySem PySem.W PyProof.Rows
set_option maxRecDepth 100000 in
set_option maxHeartbeats 0 in
theorem PySem.Challenge.cw_satchelmeet_k50_whole_some_letters_alone_holds : PySem.Challenge.rw_satchelmeet_k50_whole_some_letters_alone.Holds := by
 w_on; o_law; k_head; (case hw => w_witness2)
 k_fill
 refine Sm.walk (l := PySem.Challenge.rw_satchelmeet_k50_whole_some_letters_alone) rfl rfl (fun w h Y => PySem.W.kIn_of Y) ?F
 case F =>
  intro w mg fa h KX G hmg
  refine' Sm.all_mk KX G hmg ?a__law_purse ?F__law_purse ?a__law_take ?F__law_take ?a__law_far ?F__law_far ?a__law_rooms ?F__law_rooms ?a__law_step ?F__law_step ?a__law_meetings ?F__law_meetings ?a__law_book ?F__law_book ?a__law_time ?F__law_time ?a__law_letter ?F__law_letter ?a__law_letters ?F__law_letters ?a_is_whole ?F_is_whole ?a_is_within ?F_is_within ?a_is_below ?F_is_below ?a_is_meeting_number ?F_is_meeting_number ?a_is_walker ?F_is_walker ?a_other_at ?F_other_at ?a_are_wholes ?F_are_wholes ?a_is_passing ?F_is_passing ?a_is_drop ?F_is_drop ?a_Trip_takes_room ?j_Trip_takes_room ?F_Trip_takes_room ?a_Trip_note_arrival ?j_Trip_note_arrival ?F_Trip_note_arrival ?a_Trip___init__ ?j_Trip___init__ ?F_Trip___init__ ?a_Trip_having ?j_Trip_having ?F_Trip_having ?a_Trip_bag ?j_Trip_bag ?F_Trip_bag ?a_Trip_come ?j_Trip_come ?F_Trip_come ?a_Trip_done ?j_Trip_done ?F_Trip_done ?a_Trip_need_letter ?j_Trip_need_letter ?F_Trip_need_letter ?a_Trip_need_drop ?j_Trip_need_drop ?F_Trip_need_drop ?a_Trip_need_passing ?j_Trip_need_passing ?F_Trip_need_passing ?a_Trip_pass_on ?j_Trip_pass_on ?F_Trip_pass_on ?a_Trip_do ?j_Trip_do ?F_Trip_do ?a__law_any ?F__law_any ?a__law_wild ?F__law_wild ?a__law_likely ?F__law_likely ?a__law_noted ?F__law_noted ?a__law_does ?F__law_does ?a__law_seen ?F__law_seen ?a__law_told_here ?F__law_told_here ?a__law_apart ?F__law_apart ?a__law_right ?F__law_right ?a_law ?F_law ?z_ValueError ?z_all ?z_bool ?z_enumerate ?z_int ?z_isinstance ?z_len ?z_list ?z_max ?z_min ?z_range ?z_sorted ?z_tuple ?e_HasIt ?e_MeetError ?e_NoBook ?e_NoClaim ?e_NoDay ?e_NoDeed ?e_NoLetter ?e_NoMeeting ?e_NoName ?e_NoPass ?e_NoRoom ?e_NoRow ?e_NoRule ?e_NoText ?e_NoWalker ?e_NotThere ?e_TooMany ?e_Trip ?e_Twice ?pg_Trip ?hd_Trip ?po_Trip ?sa_Trip ?mk_Trip ?kc_Trip ?nf_Trip_book ?nf_Trip_letters ?nf_Trip_holders ?nf_Trip_arrivals ?nf_Trip_passed ?nf_Trip_reached ?nf_Trip_deeds ?xx_NoDeed ?xx_NoMeeting ?xx_NoLetter ?xx_NoWalker ?xx_NotThere ?xx_HasIt ?xx_NoPass ?xx_NoRoom ?ff_f_xc
  (case e_HasIt => k_is)
  (case e_MeetError => k_is)
  (case e_NoBook => k_is)
  (case e_NoClaim => k_is)
  (case e_NoDay => k_is)
  (case e_NoDeed => k_is)
  (case e_NoLetter => k_is)
  (case e_NoMeeting => k_is)
  (case e_NoName => k_is)
  (case e_NoPass => k_is)
  (case e_NoRoom => k_is)
  (case e_NoRow => k_is)
  (case e_NoRule => k_is)
  (case e_NoText => k_is)
  (case e_NoWalker => k_is)
  (case e_NotThere => k_is)
  (case e_TooMany => k_is)
  (case e_Trip => k_is)
  (case e_Twice => k_is)
  (case a__law_purse => k_is)
  (case F__law_purse => refine' L2.fun_mk ?x1 ?y1 ?z1; (case x1 => k_is); (case y1 => k_is); (case z1 => k_is))
  (case a__law_take => k_is)
  (case F__law_take => refine' L2.fun_mk ?x3 ?y3 ?z3; (case x3 => k_is); (case y3 => k_is); (case z3 => k_is))
  (case a__law_far => k_is)
  (case F__law_far => refine' L2.fun_mk ?x5 ?y5 ?z5; (case x5 => k_is); (case y5 => k_is); (case z5 => k_is))
  (case a__law_rooms => k_is)
  (case F__law_rooms => refine' L2.fun_mk ?x7 ?y7 ?z7; (case x7 => k_is); (case y7 => k_is); (case z7 => k_is))
  (case a__law_step => k_is)
  (case F__law_step => refine' L2.fun_mk ?x9 ?y9 ?z9; (case x9 => k_is); (case y9 => k_is); (case z9 => k_is))
  (case a__law_meetings => k_is)
  (case F__law_meetings => refine' L2.fun_mk ?x11 ?y11 ?z11; (case x11 => k_is); (case y11 => k_is); (case z11 => k_is))
  (case a__law_book => k_is)
  (case F__law_book => refine' L2.fun_mk ?x13 ?y13 ?z13; (case x13 => k_is); (case y13 => k_is); (case z13 => k_is))
  (case a__law_time => k_is)
  (case F__law_time => refine' L2.fun_mk ?x15 ?y15 ?z15; (case x15 => k_is); (case y15 => k_is); (case z15 => k_is))
  (case a__law_letter => k_is)
  (case F__law_letter => refine' L2.fun_mk ?x17 ?y17 ?z17; (case x17 => k_is); (case y17 => k_is); (case z17 => k_is))
  (case a__law_letters => k_is)
  (case F__law_letters => refine' L2.fun_mk ?x19 ?y19 ?z19; (case x19 => k_is); (case y19 => k_is); (case z19 => k_is))
  (case a_is_whole => k_is)
  (case F_is_whole => refine' L2.fun_mk ?x21 ?y21 ?z21; (case x21 => k_is); (case y21 => k_is); (case z21 => k_is))
  (case a_is_within => k_is)
  (case F_is_within => refine' L2.fun_mk ?x23 ?y23 ?z23; (case x23 => k_is); (case y23 => k_is); (case z23 => k_is))
  (case a_is_below => k_is)
  (case F_is_below => refine' L2.fun_mk ?x25 ?y25 ?z25; (case x25 => k_is); (case y25 => k_is); (case z25 => k_is))
  (case a_is_meeting_number => k_is)
  (case F_is_meeting_number => refine' L2.fun_mk ?x27 ?y27 ?z27; (case x27 => k_is); (case y27 => k_is); (case z27 => k_is))
  (case a_is_walker => k_is)
  (case F_is_walker => refine' L2.fun_mk ?x29 ?y29 ?z29; (case x29 => k_is); (case y29 => k_is); (case z29 => k_is))
  (case a_other_at => k_is)
  (case F_other_at => refine' L2.fun_mk ?x31 ?y31 ?z31; (case x31 => k_is); (case y31 => k_is); (case z31 => k_is))
  (case a_are_wholes => k_is)
  (case F_are_wholes => refine' L2.fun_mk ?x33 ?y33 ?z33; (case x33 => k_is); (case y33 => k_is); (case z33 => k_is))
  (case a_is_passing => k_is)
  (case F_is_passing => refine' L2.fun_mk ?x35 ?y35 ?z35; (case x35 => k_is); (case y35 => k_is); (case z35 => k_is))
  (case a_is_drop => k_is)
  (case F_is_drop => refine' L2.fun_mk ?x37 ?y37 ?z37; (case x37 => k_is); (case y37 => k_is); (case z37 => k_is))
  (case a_Trip_takes_room => k_is)
  (case j_Trip_takes_room => k_is)
  (case F_Trip_takes_room => refine' L2.fun_mk ?x40 ?y40 ?z40; (case x40 => k_is); (case y40 => k_is); (case z40 => k_is))
  (case a_Trip_note_arrival => k_is)
  (case j_Trip_note_arrival => k_is)
  (case F_Trip_note_arrival => refine' L2.fun_mk ?x43 ?y43 ?z43; (case x43 => k_is); (case y43 => k_is); (case z43 => k_is))
  (case a_Trip___init__ => k_is)
  (case j_Trip___init__ => k_is)
  (case F_Trip___init__ => refine' L2.fun_mk ?x46 ?y46 ?z46; (case x46 => k_is); (case y46 => k_is); (case z46 => k_is))
  (case a_Trip_having => k_is)
  (case j_Trip_having => k_is)
  (case F_Trip_having => refine' L2.fun_mk ?x49 ?y49 ?z49; (case x49 => k_is); (case y49 => k_is); (case z49 => k_is))
  (case a_Trip_bag => k_is)
  (case j_Trip_bag => k_is)
  (case F_Trip_bag => refine' L2.fun_mk ?x52 ?y52 ?z52; (case x52 => k_is); (case y52 => k_is); (case z52 => k_is))
  (case a_Trip_come => k_is)
  (case j_Trip_come => k_is)
  (case F_Trip_come => refine' L2.fun_mk ?x55 ?y55 ?z55; (case x55 => k_is); (case y55 => k_is); (case z55 => k_is))
  (case a_Trip_done => k_is)
  (case j_Trip_done => k_is)
  (case F_Trip_done => refine' L2.fun_mk ?x58 ?y58 ?z58; (case x58 => k_is); (case y58 => k_is); (case z58 => k_is))
  (case a_Trip_need_letter => k_is)
  (case j_Trip_need_letter => k_is)
  (case F_Trip_need_letter => refine' L2.fun_mk ?x61 ?y61 ?z61; (case x61 => k_is); (case y61 => k_is); (case z61 => k_is))
  (case a_Trip_need_drop => k_is)
  (case j_Trip_need_drop => k_is)
  (case F_Trip_need_drop => refine' L2.fun_mk ?x64 ?y64 ?z64; (case x64 => k_is); (case y64 => k_is); (case z64 => k_is))
  (case a_Trip_need_passing => k_is)
  (case j_Trip_need_passing => k_is)
  (case F_Trip_need_passing => refine' L2.fun_mk ?x67 ?y67 ?z67; (case x67 => k_is); (case y67 => k_is); (case z67 => k_is))
  (case a_Trip_pass_on => k_is)
  (case j_Trip_pass_on => k_is)
  (case F_Trip_pass_on => refine' L2.fun_mk ?x70 ?y70 ?z70; (case x70 => k_is); (case y70 => k_is); (case z70 => k_is))
  (case a_Trip_do => k_is)
  (case j_Trip_do => k_is)
  (case F_Trip_do => refine' L2.fun_mk ?x73 ?y73 ?z73; (case x73 => k_is); (case y73 => k_is); (case z73 => k_is))
  (case a__law_any => k_is)
  (case F__law_any => refine' L2.fun_mk ?x75 ?y75 ?z75; (case x75 => k_is); (case y75 => k_is); (case z75 => k_is))
  (case a__law_wild => k_is)
  (case F__law_wild => refine' L2.fun_mk ?x77 ?y77 ?z77; (case x77 => k_is); (case y77 => k_is); (case z77 => k_is))
  (case a__law_likely => k_is)
  (case F__law_likely => refine' L2.fun_mk ?x79 ?y79 ?z79; (case x79 => k_is); (case y79 => k_is); (case z79 => k_is))
  (case a__law_noted => k_is)
  (case F__law_noted => refine' L2.fun_mk ?x81 ?y81 ?z81; (case x81 => k_is); (case y81 => k_is); (case z81 => k_is))
  (case a__law_does => k_is)
  (case F__law_does => refine' L2.fun_mk ?x83 ?y83 ?z83; (case x83 => k_is); (case y83 => k_is); (case z83 => k_is))
  (case a__law_seen => k_is)
  (case F__law_seen => refine' L2.fun_mk ?x85 ?y85 ?z85; (case x85 => k_is); (case y85 => k_is); (case z85 => k_is))
  (case a__law_told_here => k_is)
  (case F__law_told_here => refine' L2.fun_mk ?x87 ?y87 ?z87; (case x87 => k_is); (case y87 => k_is); (case z87 => k_is))
  (case a__law_apart => k_is)
  (case F__law_apart => refine' L2.fun_mk ?x89 ?y89 ?z89; (case x89 => k_is); (case y89 => k_is); (case z89 => k_is))
  (case a__law_right => k_is)
  (case F__law_right => refine' L2.fun_mk ?x91 ?y91 ?z91; (case x91 => k_is); (case y91 => k_is); (case z91 => k_is))
  (case a_law => k_is)
  (case F_law => refine' L2.fun_mk ?x93 ?y93 ?z93; (case x93 => k_is); (case y93 => k_is); (case z93 => k_is))
  (case z_ValueError => k_is)
  (case z_all => k_is)
  (case z_bool => k_is)
  (case z_enumerate => k_is)
  (case z_int => k_is)
  (case z_isinstance => k_is)
  (case z_len => k_is)
  (case z_list => k_is)
  (case z_max => k_is)
  (case z_min => k_is)
  (case z_range => k_is)
  (case z_sorted => k_is)
  (case z_tuple => k_is)
  (case pg_Trip => k_is)
  (case hd_Trip => k_is)
  (case po_Trip => k_is)
  (case sa_Trip => k_is)
  (case mk_Trip => k_is)
  (case kc_Trip => k_is)
  (case nf_Trip_book => k_is)
  (case nf_Trip_letters => k_is)
  (case nf_Trip_holders => k_is)
  (case nf_Trip_arrivals => k_is)
  (case nf_Trip_passed => k_is)
  (case nf_Trip_reached => k_is)
  (case nf_Trip_deeds => k_is)
  (case xx_NoDeed => kernel_rfl)
  (case xx_NoMeeting => kernel_rfl)
  (case xx_NoLetter => kernel_rfl)
  (case xx_NoWalker => kernel_rfl)
  (case xx_NotThere => kernel_rfl)
  (case xx_HasIt => kernel_rfl)
  (case xx_NoPass => kernel_rfl)
  (case xx_NoRoom => kernel_rfl)
  (case ff_f_xc => kernel_rfl)

