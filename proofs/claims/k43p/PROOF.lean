import PyProof.Rows.All
import Wide.All
import OpenK.AllK
import Wide.FinOn
import Lean
import PyProof.EqAt
import PyProof.EqKinds
import PyProof.TupleCall
import PyProof.SetRoads
import PyProof.SetNew
import PyProof.TupleKey
import PyProof.InstEq
import PySem.SetOps
import KE.KTryMore
import PyProof.NsDelKeeps
import KE.KIsAll
import KE.KItemsList
import KE.KSortTup
import KE.KDictSum
import KE.KLam
import KE.KNestM
import KE.KSortTup
import PySem.Challenge.RW_satchelmeet_k43_forms_of_deeds
set_option Elab.async false
set_option linter.all false
set_option maxRecDepth 100000
namespace L2
open PySem PySem.Spec PyProof.Rows
abbrev Key := Sum Int Str
def keyIs : Key → Value → Bool
  | .inl k, v => Value.isInt k v
  | .inr x, v => Value.isStrOf x v
def keyH (w : World) : Key → Int
  | .inl k => hashInt k
  | .inr x => hashStr w x
theorem keyIs_shape : ∀ {k : Key} {v : Value}, keyIs k v = true → (∃ i t, k = Sum.inl i ∧ v = Value.int i t) ∨ (∃ x t, k = Sum.inr x ∧ v = Value.str x t)
  | .inl i, v, h => by
    obtain ⟨t, e⟩ := Value.isInt_shape (k := i) (v := v) h
    exact .inl ⟨i, t, rfl, e⟩
  | .inr x, v, h => by
    obtain ⟨t, e⟩ := Value.isStrOf_shape (x := x) (v := v) h
    exact .inr ⟨x, t, rfl, e⟩
theorem keyIs_int (i : Int) (t : Tok) : keyIs (.inl i) (.int i t) = true := by simp [keyIs, Value.isInt]
theorem keyIs_str (x : Str) (t : Tok) : keyIs (.inr x) (.str x t) = true := by simp [keyIs, Value.isStrOf]
theorem key_ll (a b : Int) : decide ((Sum.inl a : Key) = Sum.inl b) = (a == b) := by
  by_cases e : a = b
  · subst e; simp
  · have h : ¬ (Sum.inl a : Key) = Sum.inl b := fun q => e (Sum.inl.inj q)
    rw [decide_eq_false h]
    exact (beq_eq_false_iff_ne.mpr e).symm
theorem key_rr (a b : Str) : decide ((Sum.inr a : Key) = Sum.inr b) = decide (a = b) := by
  by_cases e : a = b
  · subst e; simp
  · have h : ¬ (Sum.inr a : Key) = Sum.inr b := fun q => e (Sum.inr.inj q)
    rw [decide_eq_false h, decide_eq_false e]
theorem key_lr (a : Int) (b : Str) : decide ((Sum.inl a : Key) = Sum.inr b) = false := decide_eq_false (fun q => nomatch q)
theorem key_rl (a : Str) (b : Int) : decide ((Sum.inr a : Key) = Sum.inl b) = false := decide_eq_false (fun q => nomatch q)
def mixKind (prog : Program) (w : World) : PySem.KeyKind prog w Key where
  is := keyIs
  hash := keyH w
  inj := fun v a b ha hb => by
    rcases keyIs_shape ha with ⟨i, t, rfl, rfl⟩ | ⟨x, t, rfl, rfl⟩
    · rcases keyIs_shape hb with ⟨j, u, rfl, e⟩ | ⟨y, u, rfl, e⟩
      · injection e with e1 _; rw [e1]
      · exact nomatch e
    · rcases keyIs_shape hb with ⟨j, u, rfl, e⟩ | ⟨y, u, rfl, e⟩
      · exact nomatch e
      · injection e with e1 _; rw [e1]
  byValue := fun k v h => by
    rcases keyIs_shape h with ⟨i, t, rfl, rfl⟩ | ⟨x, t, rfl, rfl⟩ <;> rfl
  pyHash := fun hv h => by
    rcases keyIs_shape hv with ⟨i, t, rfl, rfl⟩ | ⟨x, t, rfl, rfl⟩
    · exact wpAny_pyHash_int h
    · exact wpAny_pyHash_str h
  eqBool := fun hu hv h => by
    rcases keyIs_shape hu with ⟨i, t, rfl, rfl⟩ | ⟨x, t, rfl, rfl⟩
    · rcases keyIs_shape hv with ⟨j, u, rfl, rfl⟩ | ⟨y, u, rfl, rfl⟩
      · rw [key_ll] at h; exact wpAny_eqBool_int h
      · rw [key_lr] at h; exact SeqAt.EqAt.int_str i t y u _ _ _ _ h
    · rcases keyIs_shape hv with ⟨j, u, rfl, rfl⟩ | ⟨y, u, rfl, rfl⟩
      · rw [key_rl] at h; exact SeqAt.EqAt.str_int x t j u _ _ _ _ h
      · rw [key_rr] at h; exact wpAny_eqBool_str h
  «strs» := fun k x t v h => by
    rcases keyIs_shape h with ⟨i, u, rfl, e⟩ | ⟨y, u, rfl, e⟩
    · exact nomatch e
    · injection e with e1 _
      subst e1
      cases v <;> rfl
theorem mixKind_int (prog : Program) (w : World) (i : Int) (t : Tok) : (mixKind prog w).is (.inl i) (.int i t) = true := keyIs_int i t
theorem mixKind_str (prog : Program) (w : World) (x : Str) (t : Tok) : (mixKind prog w).is (.inr x) (.str x t) = true := keyIs_str x t
end L2
namespace L2
open PySem PySem.Spec PyProof.Rows
inductive V where
  | non | bl (b : Bool) | int (i : Int) | str (x : Str) | byt (b : Array UInt8) | flt (b : UInt64) | ref (a : Addr) | ty (n : String)
  deriving DecidableEq
def RelV : V → Value → Prop
  | .non, u => u = Value.none
  | .bl b, u => u = Value.bool b
  | .int i, u => ∃ t, u = Value.int i t
  | .str x, u => ∃ t, u = Value.str x t
  | .byt b, u => ∃ t, u = Value.bytes b t
  | .flt b, u => ∃ t, u = Value.float b t
  | .ref a, u => u = Value.ref a
  | .ty n, u => u = Value.type n
abbrev Vals : List V → List Value → Prop := Paired RelV
theorem Vals.length {xs : List V} {us : List Value} (r : Vals xs us) : xs.length = us.length := Paired.length r
theorem Vals.get : ∀ {xs : List V} {us : List Value} {i : Nat} {x : V}, Vals xs us → xs[i]? = some x → ∃ u, us[i]? = some u ∧ RelV x u
  | _, _, _, _, .nil, e => by simp at e
  | _, _, 0, _, .cons r _, e => by simp at e; subst e; exact ⟨_, rfl, r⟩
  | _, _, i + 1, x, .cons _ t, e => by
    obtain ⟨u, h1, h2⟩ := Vals.get (i := i) (x := x) t (by simpa using e)
    exact ⟨u, by simpa using h1, h2⟩
theorem Vals.set {x : V} {u : Value} (r : RelV x u) : ∀ {xs : List V} {us : List Value} (i : Nat), Vals xs us → Vals (xs.set i x) (us.set i u)
  | _, _, _, .nil => .nil
  | _, _, 0, .cons _ t => .cons r t
  | _, _, i + 1, .cons q t => .cons q (Vals.set r i t)
theorem Vals.append : ∀ {xs ys : List V} {us ws : List Value}, Vals xs us → Vals ys ws → Vals (xs ++ ys) (us ++ ws)
  | _, _, _, _, .nil, s => s
  | _, _, _, _, .cons r t, s => .cons r (Vals.append t s)
theorem Vals.take : ∀ {xs : List V} {us : List Value} (n : Nat), Vals xs us → Vals (xs.take n) (us.take n)
  | _, _, 0, _ => .nil
  | _, _, _ + 1, .nil => .nil
  | _, _, n + 1, .cons r t => .cons r (Vals.take n t)
theorem Vals.drop : ∀ {xs : List V} {us : List Value} (n : Nat), Vals xs us → Vals (xs.drop n) (us.drop n)
  | _, _, 0, r => r
  | _, _, _ + 1, .nil => .nil
  | _, _, n + 1, .cons _ t => Vals.drop n t
def RelO : Option V → Option Value → Prop
  | some v, some u => RelV v u
  | none, none => True
  | _, _ => False
def KV {κ : Type} : List (κ × V) → List (κ × Value) → Prop := Paired fun (p : κ × V) (q : κ × Value) => p.1 = q.1 ∧ RelV p.2 q.2
def kV : Key → V
  | .inl i => .int i
  | .inr x => .str x
inductive HO where
    | lst (xs : List V)
    | tup (xs : List V)
    | dK (kvs : List (Key × V)) | dT (kvs : List (List Key × V))
    | set (S : Int → Bool) (n : Nat)
    | ins (C dx : Addr) (fs : List (Str × V))
    | own (x : Addr)
    | xd (fs : List (Str × V))
    | met (f x : Addr)
    | rng (lo hi : Int)
    | frz (o : Obj) (u : HO)
    | tbl (ps : Array Value)
    | ext (φ : Heap → Prop)
abbrev Hp := Addr → Option HO
def upd (H : Hp) (a : Addr) (o : HO) : Hp := fun b => if b = a then some o else H b
theorem upd_same {H : Hp} {a : Addr} {o : HO} : upd H a o a = some o := by unfold upd; rw [if_pos rfl]
theorem upd_ne {H : Hp} {a b : Addr} {o : HO} (h : b ≠ a) : upd H a o b = H b := by unfold upd; rw [if_neg h]
theorem ne_of {H : Hp} {a b : Addr} {o u : HO} (h : H a = some o) (h' : H b = some u) (d : o ≠ u) : a ≠ b := by
  intro e; subst e; rw [h] at h'; exact d (Option.some.inj h')
theorem ne_of_none {H : Hp} {a b : Addr} {o : HO} (h : H a = some o) (h' : H b = none) : a ≠ b := by
  intro e; subst e; rw [h] at h'; cases h'
theorem new_bare {h : Heap} {o : Obj} (hf : o.isFreed = false := by rfl) (hd : o.dict = none := by rfl) : ∀ ob, (h.push o).get? h.objs.size = some ob → ob.dict = none := fun ob e => by
  rw [Heap.get?_push_size h hf] at e; cases e; exact hd
section
variable (P : Program) (w : World)
def ObjOk (H : Hp) (h : Heap) (a : Addr) : HO → Prop
  | .lst xs => xs.length ≤ sizeLine ∧ ∃ (its : List Value) (n : Nat), Vals xs its ∧ h.get? a = some { cls := .type "list", data := .seq its.toArray n }
  | .tup xs => (xs.length ≤ sizeLine ∧ ∀ ob, h.get? a = some ob → ob.dict = none) ∧ ∃ its : List Value, Vals xs its ∧ IsTup h a its.toArray
  | .dK kvs => kvs.length ≤ sizeLine ∧ (a == sysModules) = false ∧ ∃ vs, KV kvs vs ∧ h.DictOf (mixKind P w) a vs
  | .dT kvs => kvs.length ≤ sizeLine ∧ (a == sysModules) = false ∧ ∃ xs : List (List Key × Addr × Value),
      Paired (fun (p : List Key × V) (q : List Key × Addr × Value) => p.1 = q.1 ∧ H q.2.1 = some (.tup (p.1.map kV)) ∧ RelV p.2 q.2.2) kvs xs ∧
      ∃ o es ep, h.get? a = some o ∧ o.ExactDict ∧ o.data = .dict es ep ∧ es.toList = xs.map (entryOfKey (tupleKind (mixKind P w))) ∧ (xs.map (·.1)).Nodup
  | .set S n => h.SetOf (intKind P w) a S n
  | .ins C dx fs => H dx = some (.own a) ∧ fs.length ≤ 1000 ∧ dx ≠ a ∧ h.get? a = some (PySem.W.instObj C dx) ∧
      ∃ mA, h.Ns1 dx mA ∧ (∀ f, RelO (fs.lookup f) (mA f)) ∧ PySem.Within mA (fs.map (·.1))
  | .own _ => ∃ o, h.get? a = some o
  | .xd fs => ∃ mA, h.Ns1 a mA ∧ ∀ f, RelO (fs.lookup f) (mA f)
  | .rng lo hi => ∃ t u v, h.get? a = some { cls := .type "range", data := .fields #[.int lo t, .int hi u, .int 1 v] }
  | .frz o u => h.get? a = some o ∧ ObjOk H h a u
  | .tbl ps => h.get? a = some { cls := .none, data := .fields ps }
  | .met f x => h.get? a = some (PySem.W.methodObj (.ref f) (.ref x))
  | .ext φ => φ h ∧ (∃ o, h.get? a = some o) ∧ ∀ h1 h2 : Heap, φ h1 → (∀ o, h1.get? a = some o → h2.get? a = some o) → φ h2
def HOk (H : Hp) (h : Heap) : Prop := ∀ a o, H a = some o → ObjOk P w H h a o
end
section
variable {P : Program} {w : World} {H H' : Hp} {h h' : Heap} {a : Addr} {o : HO}
theorem ObjOk.lt (x : ObjOk P w H h a o) : a < h.objs.size := by
  cases o with
  | lst xs => obtain ⟨_, _, _, _, e⟩ := x; exact Heap.lt_size e
  | tup xs => obtain ⟨_, _, _, p⟩ := x; exact p.lt
  | dK kvs => obtain ⟨_, _, _, _, o, _, _, e, _⟩ := x; exact Heap.lt_size e
  | dT kvs => obtain ⟨_, _, _, _, o, _, _, e, _⟩ := x; exact Heap.lt_size e
  | set S n => obtain ⟨o, _, _, _, e, _⟩ := x; exact Heap.lt_size e
  | ins C dx fs => obtain ⟨_, _, _, e, _⟩ := x; exact Heap.lt_size e
  | own y => obtain ⟨_, e⟩ := x; exact Heap.lt_size e
  | xd fs => obtain ⟨_, ⟨_, _, _, e, _⟩, _⟩ := x; exact Heap.lt_size e
  | rng lo hi => obtain ⟨_, _, _, e⟩ := x; exact Heap.lt_size e
  | frz ob u => obtain ⟨e, _⟩ := x; exact Heap.lt_size e
  | tbl ps => exact Heap.lt_size (show h.get? a = some _ from x)
  | met f y => exact Heap.lt_size (show h.get? a = some _ from x)
  | ext φ => obtain ⟨_, ⟨_, e⟩, _⟩ := x; exact Heap.lt_size e
theorem Paired.mapP {α β : Type} {F G : α → β → Prop} : ∀ {l₁ : List α} {l₂ : List β}, Paired F l₁ l₂ → (∀ a b, F a b → G a b) → Paired G l₁ l₂
  | _, _, .nil, _ => .nil
  | _, _, .cons r t, f => .cons (f _ _ r) (Paired.mapP t f)
theorem ObjOk.stay (x : ObjOk P w H h a o) (k : ∀ b u, (b = a ∨ H b = some (.own a)) → h.get? b = some u → h'.get? b = some u)
    (ho : ∀ b, H b = some (.own a) → H' b = some (.own a)) (ht : ∀ b xs, H b = some (.tup xs) → H' b = some (.tup xs)) : ObjOk P w H' h' a o := by
  induction o with
  | lst xs => obtain ⟨z, its, n, r, e⟩ := x; exact ⟨z, its, n, r, k _ _ (.inl rfl) e⟩
  | tup xs => obtain ⟨z, its, r, ob, e, c⟩ := x; exact ⟨⟨z.1, fun ob' e' => by rw [k _ _ (.inl rfl) e] at e'; cases e'; exact z.2 _ e⟩, its, r, ob, k _ _ (.inl rfl) e, c⟩
  | dK kvs => obtain ⟨z, y, vs, r, ob, es, ep, e, c⟩ := x; exact ⟨z, y, vs, r, ob, es, ep, k _ _ (.inl rfl) e, c⟩
  | dT kvs =>
    obtain ⟨z, y, xs, r, ob, es, ep, e, c⟩ := x
    exact ⟨z, y, xs, Paired.mapP r fun p q z => ⟨z.1, ht _ _ z.2.1, z.2.2⟩, ob, es, ep, k _ _ (.inl rfl) e, c⟩
  | set S n => obtain ⟨ob, es, ep, t, e, c⟩ := x; exact ⟨ob, es, ep, t, k _ _ (.inl rfl) e, c⟩
  | ins C dx fs =>
    obtain ⟨d, z, ne, e, mA, ⟨od, es, ep, e2, c⟩, r⟩ := x
    exact ⟨ho _ d, z, ne, k _ _ (.inl rfl) e, mA, ⟨od, es, ep, k _ _ (.inr d) e2, c⟩, r⟩
  | own y => obtain ⟨ob, e⟩ := x; exact ⟨ob, k _ _ (.inl rfl) e⟩
  | xd fs => obtain ⟨mA, ⟨od, es, ep, e, c⟩, r⟩ := x; exact ⟨mA, ⟨od, es, ep, k _ _ (.inl rfl) e, c⟩, r⟩
  | rng lo hi => obtain ⟨t, u, v, e⟩ := x; exact ⟨t, u, v, k _ _ (.inl rfl) e⟩
  | frz ob u ih => obtain ⟨e, q⟩ := x; exact ⟨k _ _ (.inl rfl) e, ih q⟩
  | tbl ps =>
    have e : h.get? a = some { cls := .none, data := .fields ps } := x
    show h'.get? a = some { cls := .none, data := .fields ps }
    exact k a _ (.inl rfl) e
  | met f y =>
    have e : h.get? a = some (PySem.W.methodObj (.ref f) (.ref y)) := x
    show h'.get? a = some (PySem.W.methodObj (.ref f) (.ref y))
    exact k a _ (.inl rfl) e
  | ext φ => obtain ⟨p, ⟨o, e⟩, st⟩ := x; exact ⟨st _ _ p fun o q => k _ _ (.inl rfl) q, ⟨o, k _ _ (.inl rfl) e⟩, st⟩
theorem HOk.lt (x : HOk P w H h) (e : H a = some o) : a < h.objs.size := (x a o e).lt
theorem HOk.fresh (x : HOk P w H h) (e : h.objs.size ≤ a) : H a = none := by
  cases q : H a with
  | none => rfl
  | some u => exact absurd (Nat.lt_of_lt_of_le (x.lt q) e) (Nat.lt_irrefl _)
theorem HOk.kept (x : HOk P w H h) (k : ∀ b u, h.get? b = some u → h'.get? b = some u) : HOk P w H h' := fun a o e =>
  (x a o e).stay (fun b u _ q => k b u q) (fun _ q => q) fun _ _ q => q
theorem HOk.laid (x : HOk P w H h) (k : ∀ b u, h.get? b = some u → h'.get? b = some u) (hp : h.objs.size ≤ a) (new : ObjOk P w (upd H a o) h' a o) : HOk P w (upd H a o) h' := fun b u e => by
  have hn := x.fresh hp
  by_cases hb : b = a
  · subst hb; rw [upd_same] at e; cases e; exact new
  · rw [upd_ne hb] at e
    exact (x b u e).stay (fun c v _ q => k c v q) (fun c q => by rw [upd_ne (ne_of_none q hn)]; exact q) fun c xs q => by rw [upd_ne (ne_of_none q hn)]; exact q
end
def Rd (H : Hp) (a : Addr) (u : HO) : Prop := H a = some u ∨ ∃ o, H a = some (.frz o u)
theorem Rd.ok {P : Program} {w : World} {H : Hp} {h : Heap} {a : Addr} {u : HO} (r : Rd H a u) (x : HOk P w H h) : ObjOk P w H h a u := by
  rcases r with r | ⟨o, r⟩
  · exact x a u r
  · obtain ⟨_, q⟩ := x a _ r
    exact q
def Mut : Option HO → Prop
  | some (.lst _) => True
  | some (.dK _) => True
  | some (.dT _) => True
  | some (.set _ _) => True
  | some (.ins _ _ _) => True
  | some (.ext _) => True
  | _ => False
section
variable {P : Program} {w : World} {H : Hp} {h h' : Heap} {x e : Addr} {o' : HO}
theorem HOk.write (ok : HOk P w H h) (mu : Mut (H x)) (he : e = x ∨ H e = some (.own x)) (k : ∀ b u, b ≠ e → h.get? b = some u → h'.get? b = some u) (heo : ∃ u, h'.get? e = some u)
    (new : ObjOk P w (upd H x o') h' x o') : HOk P w (upd H x o') h' := fun b u q => by
  have nown : ∀ c y, H c = some (.own y) → c ≠ x := fun c y r z => by subst z; rw [r] at mu; exact mu
  have ntup : ∀ c xs, H c = some (.tup xs) → c ≠ x := fun c xs r z => by subst z; rw [r] at mu; exact mu
  by_cases hb : b = x
  · subst hb; rw [upd_same] at q; cases q; exact new
  · rw [upd_ne hb] at q
    by_cases hbe : b = e
    · have q' : H b = some (.own x) := by
        rcases he with z | z
        · exact absurd (hbe.trans z) hb
        · rw [hbe]; exact z
      rw [q] at q'; cases q'
      obtain ⟨v, hv⟩ := heo
      exact ⟨v, by rw [hbe]; exact hv⟩
    · refine (ok b u q).stay (fun c v hc r => k c v ?_ r) (fun c r => by rw [upd_ne (nown c b r)]; exact r) fun c xs r => by rw [upd_ne (ntup c xs r)]; exact r
      rcases hc with rfl | hc
      · exact hbe
      · rintro rfl
        rcases he with z | z
        · exact nown c b hc z
        · rw [hc] at z; cases z; exact hb rfl
end
structure Un (fs ex : List Addr) (H H' : Hp) (h h' : Heap) : Prop where
  keep : ∀ b o, h.get? b = some o → H b = none → b ∉ fs → b ∉ ex → h'.get? b = some o
  slot : ∀ b o, h.get? b = some o → H b = none → b ∈ fs → b ∉ ex → ∃ sl, h'.get? b = some { o with slots := sl }
  free : ∀ b o, h.get? b = some o → H b = none → b ∉ ex → H' b = none
  there : ∀ b o, h.get? b = some o → b ∉ ex → ∃ o', h'.get? b = some o'
  tups : ∀ b xs, H b = some (.tup xs) → H' b = some (.tup xs)
  frzs : ∀ b o u, H b = some (.frz o u) → H' b = some (.frz o u)
  tbls : ∀ b ps, H b = some (.tbl ps) → ∃ more, H' b = some (.tbl (ps ++ more))
section
variable {fs fs' ex ex' : List Addr} {H H1 H2 : Hp} {h h1 h2 h' : Heap} {a x e : Addr} {o : HO}
theorem Un.any (u : Un fs ex H H1 h h1) {b : Addr} {ob : Obj} (q : h.get? b = some ob) (n : H b = none) (hx : b ∉ ex) : ∃ sl, h1.get? b = some { ob with slots := sl } := by
  by_cases hb : b ∈ fs
  · exact u.slot b ob q n hb hx
  · exact ⟨ob.slots, u.keep b ob q n hb hx⟩
theorem Un.kept (k : ∀ b u, h.get? b = some u → h'.get? b = some u) : Un fs ex H H h h' :=
  ⟨fun b ob q _ _ _ => k b ob q, fun b ob q _ _ _ => ⟨ob.slots, k b ob q⟩, fun _ _ _ n _ => n, fun b ob q _ => ⟨ob, k b ob q⟩, fun _ _ q => q, fun _ _ _ q => q, fun _ ps q => ⟨#[], by rw [q]; simp⟩⟩
theorem Un.refl : Un fs ex H H h h := Un.kept fun _ _ q => q
theorem Un.laid (k : ∀ b u, h.get? b = some u → h'.get? b = some u) (hp : h.objs.size ≤ a) (hn : H a = none) : Un fs ex H (upd H a o) h h' where
  keep := fun b u q _ _ _ => k b u q
  slot := fun b u q _ _ _ => ⟨u.slots, k b u q⟩
  free := fun b u q n _ => by rw [upd_ne (Nat.ne_of_lt (Nat.lt_of_lt_of_le (Heap.lt_size q) hp))]; exact n
  there := fun b u q _ => ⟨u, k b u q⟩
  tups := fun b xs q => by rw [upd_ne (ne_of_none q hn)]; exact q
  frzs := fun b u xs q => by rw [upd_ne (ne_of_none q hn)]; exact q
  tbls := fun b ps q => ⟨#[], by rw [upd_ne (ne_of_none q hn), q]; simp⟩
theorem Un.write (mu : Mut (H x)) (he : e = x ∨ H e = some (.own x)) (k : ∀ b u, b ≠ e → h.get? b = some u → h'.get? b = some u) (heo : ∃ u, h'.get? e = some u) : Un fs ex H (upd H x o) h h' := by
  have hx : ∀ b, H b = none → b ≠ x := fun b n z => by subst z; rw [n] at mu; exact mu
  have hb : ∀ b, H b = none → b ≠ e := fun b n z => by
    subst z
    rcases he with r | r
    · exact hx b n r
    · rw [n] at r; cases r
  have hm : ∀ b u, H b = some u → ¬ Mut (some u) → b ≠ x := fun b u q nm z => by subst z; rw [q] at mu; exact nm mu
  refine ⟨fun b u q n _ _ => k b u (hb b n) q, fun b u q n _ _ => ⟨u.slots, k b u (hb b n) q⟩, fun b u q n _ => by rw [upd_ne (hx b n)]; exact n, fun b u q _ => ?_,
    fun b xs q => by rw [upd_ne (hm b _ q fun z => z)]; exact q, fun b u xs q => by rw [upd_ne (hm b _ q fun z => z)]; exact q, fun b ps q => ⟨#[], by rw [upd_ne (hm b _ q fun z => z), q]; simp⟩⟩
  by_cases hbe : b = e
  · subst hbe; exact heo
  · exact ⟨u, k b u hbe q⟩
end
def trk (h : Heap) (H : Hp) : List Addr := (List.range h.objs.size).filter fun a => (H a).isSome
def hidT (h : Heap) (H : Hp) : Heap := PySem.W.hideAll h (trk h H)
theorem hidT_size (h : Heap) (H : Hp) : (hidT h H).objs.size = h.objs.size := PySem.W.hideAll_size _ _
theorem hidT_get {h : Heap} {H : Hp} {b : Addr} {o : Obj} (e : h.get? b = some o) (n : H b = none) : (hidT h H).get? b = some o :=
  PySem.W.hideAll_get _ e fun hm => by
    have q : (H b).isSome = true := (List.mem_filter.mp hm).2
    rw [n] at q; simp at q
theorem of_hidT {h : Heap} {H : Hp} {b : Addr} {o : Obj} (e : (hidT h H).get? b = some o) : h.get? b = some o ∧ H b = none := by
  have e' : h.get? b = some o := PySem.W.of_hideAll (trk h H) e
  refine ⟨e', ?_⟩
  cases q : H b with
  | none => rfl
  | some x =>
    have hm : b ∈ trk h H := List.mem_filter.mpr ⟨List.mem_range.mpr (Heap.lt_size e'), by simp [q]⟩
    have z : (hidT h H).get? b = none := PySem.W.hideAll_none (trk h H) hm
    rw [z] at e; cases e
def allNews (g h : Heap) (L : Addr) : List (Addr × Obj) := (List.range h.objs.size).filterMap fun a => if a = L ∨ (g.get? a).isSome = true then none else (h.get? a).map fun o => (a, o)
theorem mem_allNews {g h : Heap} {L a : Addr} {o : Obj} (h1 : a ≠ L) (h2 : g.get? a = none) (h3 : h.get? a = some o) : (a, o) ∈ allNews g h L :=
  List.mem_filterMap.mpr ⟨a, List.mem_range.mpr (Heap.lt_size h3), by simp [h1, h2, h3]⟩
theorem of_mem_allNews {g h : Heap} {L : Addr} {p : Addr × Obj} (hp : p ∈ allNews g h L) : p.1 ≠ L ∧ g.get? p.1 = none ∧ h.get? p.1 = some p.2 := by
  obtain ⟨b, _, e⟩ := List.mem_filterMap.mp hp
  split at e
  · cases e
  · rename_i hn
    cases q : h.get? b with
    | none => rw [q] at e; simp at e
    | some u =>
      rw [q] at e
      simp only [Option.map_some, Option.some.injEq] at e
      subst e
      refine ⟨fun z => hn (.inl z), ?_, q⟩
      show g.get? b = none
      cases r : g.get? b with
      | none => rfl
      | some v => exact (hn (.inr (by simp [r]))).elim
def rest (g h : Heap) (L d : Addr) : List (Addr × Obj) := (allNews g h L).filter fun p => decide (p.1 ≠ d)
theorem news_all {g h : Heap} {L : Addr} : News g L h (allNews g h L) := fun p hp => let ⟨a, b, c⟩ := of_mem_allNews hp; ⟨c, a, b⟩
end L2
namespace L2
open PySem PySem.Spec PyProof.Rows
structure Mod (K : PySem.W.Frag) (mg : Str → Option Value) (base : Heap) : Prop where
  kin : K.In base
  glob : base.Ns mainGlobals mg
  blt : ∃ mb, base.Ns builtinsNs mb ∧ ∀ x : Str, x ≠ "__name__" → mb x = bootBuiltins x
  nolimit : base.NoLimit
structure Cx where
  prog : Program
  w : World
  K : PySem.W.Frag
  mg : Str → Option Value
  base : Heap
  A : Around
  N : List Str
  s₀ : Shared
  H₀ : Hp
  env : Env
  outer : List Env
  stack : List Env
  ex : List Addr
  fn : Str → Bool
  calm : Bool
  pn : List (Addr × Obj)
  xe : Value → Shared → Prop
def frs (l : List Env) : List Addr := l.filterMap (·.frame)
abbrev Cx.fs (X : Cx) : List Addr := frs X.outer
def Vis (sc : Scope) (x : Str) : Prop := sc.names.lookup x = some .local ∨ sc.names.lookup x = some .cell ∨ sc.names.lookup x = some .free
def Loc (sc : Scope) (x : Str) : Prop := sc.names.lookup x = some .local ∨ sc.names.lookup x = some .cell
def Look (env : Env) (h : Heap) (m : Str → Option Value) (x : Str) (u : Value) : Prop :=
  (env.kindOf x = some .local ∧ m x = some u) ∨ ((env.kindOf x = some .cell ∨ env.kindOf x = some .free) ∧ ∃ c, env.cells.lookup x = some c ∧ h.IsCell c (some u))
structure Cx.Ok (X : Cx) : Prop where
  mod : Mod X.K X.mg X.base
  kind : X.env.scope.kind = .function
  glob : X.env.globals = mainGlobals
  blt : X.env.builtins = builtinsNs
  above : X.s₀.heap.objs.size ≤ X.env.locals
  inj : ∀ x y c, X.env.cells.lookup x = some c → X.env.cells.lookup y = some c → x = y
  has : ∀ x, (X.env.kindOf x = some .cell ∨ X.env.kindOf x = some .free) → ∃ c, X.env.cells.lookup x = some c
  cab : ∀ x c, X.fn x = true → X.env.cells.lookup x = some c → X.s₀.heap.objs.size ≤ c
  hd : X.calm = true → X.A.handled = none
  frames : X.A.frames = some X.stack
  stk : X.stack = X.outer ∨ (X.stack = X.env :: X.outer ∧ X.env.frame = some X.env.locals)
  exf : ∀ b ∈ X.ex, b ≠ X.env.locals ∧ ∀ x c, X.env.cells.lookup x = some c → c ≠ b
  bs : ∀ b o, X.base.get? b = some o → X.s₀.heap.get? b = some o ∧ X.H₀ b = none
  bsz : X.base.objs.size ≤ X.s₀.heap.objs.size
  noex : ∀ b o, X.base.get? b = some o → b ∉ X.ex
  exfs : ∀ b ∈ X.ex, b ∉ X.fs
  funs : X.s₀.heap.FunFrames X.base X.outer
  frf : ∀ b ∈ X.fs, X.H₀ b = none
structure Inv (X : Cx) (pins : List (Addr × Obj)) (σ : List (Option V)) (H : Hp) (s : Shared) : Prop where
  ok : X.Ok
  os : s.os = X.s₀.os
  bare : AllBare s.gens
  base : Un X.fs X.ex X.H₀ H X.s₀.heap s.heap
  loc : ∃ m, s.heap.Ns X.env.locals m ∧ ∀ (i : Nat) (x : Str) (v : V), X.N[i]? = some x → σ[i]? = some (some v) → Vis X.env.scope x → ∃ u, RelV v u ∧ Look X.env s.heap m x u
  cell : ∀ x c, X.env.cells.lookup x = some c → ∃ v, s.heap.IsCell c v
  free : H X.env.locals = none
  freeC : ∀ x c, X.env.cells.lookup x = some c → H c = none
  pin : ∀ p ∈ X.pn ++ pins, s.heap.get? p.1 = some p.2 ∧ H p.1 = none ∧ p.1 ≠ X.env.locals ∧ p.1 ∉ X.fs ∧ ∀ v, p.2.data ≠ .cell v
  hok : HOk X.prog X.w H s.heap
  len : σ.length = X.N.length
section
variable {X : Cx} {pins : List (Addr × Obj)} {σ : List (Option V)} {H H' : Hp} {s : Shared} {h' : Heap}
theorem Cx.Ok.nofr (ok : X.Ok) {b : Addr} {o : Obj} (e : X.base.get? b = some o) : b ∉ X.fs := fun hb => by
  have := (ok.funs.mem hb).1
  rw [e] at this; cases this
theorem Inv.bs (I : Inv X pins σ H s) : ∀ b o, X.base.get? b = some o → s.heap.get? b = some o ∧ H b = none := fun b o e =>
  ⟨I.base.keep b o (I.ok.bs b o e).1 (I.ok.bs b o e).2 (I.ok.nofr e) (I.ok.noex b o e), I.base.free b o (I.ok.bs b o e).1 (I.ok.bs b o e).2 (I.ok.noex b o e)⟩
theorem Inv.bk (I : Inv X pins σ H s) : ∀ b o, X.base.get? b = some o → s.heap.get? b = some o := fun b o e => (I.bs b o e).1
theorem Inv.mod (I : Inv X pins σ H s) : Mod X.K X.mg X.base := I.ok.mod
theorem Inv.kIn (I : Inv X pins σ H s) : X.K.In s.heap := I.ok.mod.kin.keeps I.bk
theorem Inv.fr (I : Inv X pins σ H s) : ∃ m, Fr X.base X.env.locals s.heap m :=
  let ⟨m, hn, _⟩ := I.loc
  ⟨m, hn, I.bk, Nat.le_trans I.ok.bsz I.ok.above⟩
theorem Inv.lt (I : Inv X pins σ H s) : X.env.locals < s.heap.objs.size := let ⟨_, hn, _⟩ := I.loc; hn.lt
theorem Inv.sz (I : Inv X pins σ H s) : X.s₀.heap.objs.size ≤ s.heap.objs.size := Nat.le_trans I.ok.above (Nat.le_of_lt I.lt)
theorem Inv.nofs (I : Inv X pins σ H s) {a : Addr} (h : s.heap.objs.size ≤ a) : a ∉ X.fs := fun hb => by
  obtain ⟨_, o, ho, _⟩ := I.ok.funs.mem hb
  exact absurd (Nat.lt_of_lt_of_le (Heap.lt_size ho) (Nat.le_trans I.sz h)) (Nat.lt_irrefl _)
theorem Inv.cne (I : Inv X pins σ H s) : ∀ x c, X.env.cells.lookup x = some c → c ≠ X.env.locals := fun x c e z => by
  obtain ⟨v, o, ho, hd⟩ := I.cell x c e
  obtain ⟨m, ⟨o', es, ep, ho', hd', _⟩, _⟩ := I.loc
  rw [z, ho'] at ho; cases ho; rw [hd'] at hd; cases hd
theorem Inv.funs (I : Inv X pins σ H s) : s.heap.FunFrames X.base X.outer := by
  have all : ∀ (l : List Env), (∀ b ∈ frs l, b ∈ X.fs) → X.s₀.heap.FunFrames X.base l → s.heap.FunFrames X.base l := by
    intro l
    induction l with
    | nil => intro _ _; trivial
    | cons env r ih =>
      intro hs hl
      obtain ⟨hk, ⟨L, o, hf, hn, ho, hd⟩, hr⟩ := hl
      have hL : L ∈ X.fs := hs L (by unfold frs; rw [List.filterMap_cons, hf]; exact List.mem_cons_self)
      obtain ⟨sl, e⟩ := I.base.slot L o ho (I.ok.frf L hL) hL fun z => I.ok.exfs L z hL
      exact ⟨hk, ⟨L, _, hf, hn, e, hd⟩, ih (fun b hb => hs b (by unfold frs; rw [List.filterMap_cons, hf]; exact List.mem_cons_of_mem _ hb)) hr⟩
  exact all X.outer (fun _ hb => hb) I.ok.funs
theorem Inv.stack (I : Inv X pins σ H s) : s.heap.FunFrames X.base X.stack := by
  rcases I.ok.stk with e | ⟨e, hf⟩
  · rw [e]; exact I.funs
  · rw [e]
    obtain ⟨m, hn, _⟩ := I.loc
    refine .cons (by rw [I.ok.kind]; decide) hf hn ?_ I.funs
    exact Heap.get?_none_of_le (Nat.le_trans I.ok.bsz I.ok.above)
theorem Inv.stkSub (I : Inv X pins σ H s) : ∀ b ∈ frs X.stack, b ∈ X.env.locals :: X.fs := fun b hb => by
  rcases I.ok.stk with e | ⟨e, hf⟩
  · rw [e] at hb; exact List.mem_cons_of_mem _ hb
  · rw [e] at hb
    unfold frs at hb
    rw [List.filterMap_cons, hf] at hb
    exact hb
theorem Inv.stkFree (I : Inv X pins σ H s) : ∀ b ∈ frs X.stack, H b = none := fun b hb => by
  rcases List.mem_cons.mp (I.stkSub b hb) with e | hb
  · rw [e]; exact I.free
  · obtain ⟨_, o, ho, _⟩ := I.ok.funs.mem hb
    exact I.base.free b o ho (I.ok.frf b hb) fun z => I.ok.exfs b z hb
theorem Inv.step {g' : Array GenState} {t' : Nat} {d' : Drawn} {ch : List Addr} (I : Inv X pins σ H s)
    (hch : ∀ b ∈ ch, (b ∈ X.ex ∨ X.s₀.heap.objs.size ≤ b) ∧ b ≠ X.env.locals ∧ (∀ x c, X.env.cells.lookup x = some c → c ≠ b) ∧ ∀ p ∈ X.pn ++ pins, p.1 ≠ b)
    (keep : ∀ b o, b ≠ X.env.locals → b ∉ X.fs → b ∉ ch → s.heap.get? b = some o → H b = none → h'.get? b = some o)
    (slot : ∀ b o, b ≠ X.env.locals → b ∈ X.fs → b ∉ ch → s.heap.get? b = some o → H b = none → ∃ sl, h'.get? b = some { o with slots := sl }) (free : ∀ b o, b ∉ ch → s.heap.get? b = some o → H b = none → H' b = none)
    (there : ∀ b o, b ∉ ch → s.heap.get? b = some o → ∃ o', h'.get? b = some o')
    (tups : ∀ b xs, H b = some (.tup xs) → H' b = some (.tup xs)) (frzs : ∀ b o u, H b = some (.frz o u) → H' b = some (.frz o u)) (tbls : ∀ b ps, H b = some (.tbl ps) → ∃ more, H' b = some (.tbl (ps ++ more)))
    (ns : ∀ m, s.heap.Ns X.env.locals m → h'.Ns X.env.locals m) (hok : HOk X.prog X.w H' h') (hg : AllBare g') :
    Inv X pins σ H' { s with heap := h', gens := g', drawn := d', toks := t' } := by
  have neL : ∀ b o, X.s₀.heap.get? b = some o → b ≠ X.env.locals := fun b o e => Nat.ne_of_lt (Nat.lt_of_lt_of_le (Heap.lt_size e) I.ok.above)
  have neC : ∀ b o, X.s₀.heap.get? b = some o → b ∉ X.ex → b ∉ ch := fun b o e hx hb => by
    rcases (hch b hb).1 with z | z
    · exact hx z
    · exact absurd (Nat.lt_of_lt_of_le (Heap.lt_size e) z) (Nat.lt_irrefl _)
  have cellK : ∀ x c, X.env.cells.lookup x = some c → ∀ v, s.heap.IsCell c v → h'.IsCell c v := fun x c e v ⟨o, ho, hd⟩ => by
    have nch : c ∉ ch := fun z => (hch c z).2.2.1 x c e rfl
    by_cases hc : c ∈ X.fs
    · obtain ⟨sl, q⟩ := slot c o (I.cne x c e) hc nch ho (I.freeC x c e)
      exact ⟨_, q, hd⟩
    · exact ⟨o, keep c o (I.cne x c e) hc nch ho (I.freeC x c e), hd⟩
  refine ⟨I.ok, I.os, hg, ⟨fun b o e n hb hx => ?_, fun b o e n hb hx => ?_, fun b o e n hx => ?_, fun b o e hx => ?_, fun b xs e => tups b xs (I.base.tups b xs e), fun b o xs e => frzs b o xs (I.base.frzs b o xs e), fun b ps e => ?_⟩, ?_, fun x c e => ?_, ?_, fun x c e => ?_, fun p hp => ?_, hok, I.len⟩
  · exact keep b o (neL b o e) hb (neC b o e hx) (I.base.keep b o e n hb hx) (I.base.free b o e n hx)
  · obtain ⟨sl, e1⟩ := I.base.slot b o e n hb hx
    obtain ⟨sl', e2⟩ := slot b _ (neL b o e) hb (neC b o e hx) e1 (I.base.free b o e n hx)
    exact ⟨sl', e2⟩
  · obtain ⟨o', e1⟩ := I.base.there b o e hx
    exact free b o' (neC b o e hx) e1 (I.base.free b o e n hx)
  · obtain ⟨o', e1⟩ := I.base.there b o e hx
    exact there b o' (neC b o e hx) e1
  · obtain ⟨m1, e1⟩ := I.base.tbls b ps e
    obtain ⟨m2, e2⟩ := tbls b _ e1
    exact ⟨m1 ++ m2, by rw [e2, Array.append_assoc]⟩
  · obtain ⟨m, hn, hl⟩ := I.loc
    refine ⟨m, ns m hn, fun i x v e1 e2 e3 => ?_⟩
    obtain ⟨u, r, l⟩ := hl i x v e1 e2 e3
    refine ⟨u, r, ?_⟩
    rcases l with l | ⟨k, c, e, z⟩
    · exact .inl l
    · exact .inr ⟨k, c, e, cellK x c e _ z⟩
  · obtain ⟨v, z⟩ := I.cell x c e
    exact ⟨v, cellK x c e v z⟩
  · obtain ⟨m, ⟨o, _, _, ho, _⟩, _⟩ := I.loc
    exact free _ o (fun z => (hch _ z).2.1 rfl) ho I.free
  · obtain ⟨v, o, ho, hd⟩ := I.cell x c e
    exact free c o (fun z => (hch c z).2.2.1 x c e rfl) ho (I.freeC x c e)
  · obtain ⟨e, n, ne, nf, d⟩ := I.pin p hp
    have nch : p.1 ∉ ch := fun z => (hch p.1 z).2.2.2 p hp rfl
    exact ⟨keep p.1 p.2 ne nf nch e n, free p.1 p.2 nch e n, ne, nf, d⟩
theorem Inv.un {t' : Nat} (I : Inv X pins σ H s) (u : Un X.fs [] H H' s.heap h') (hok : HOk X.prog X.w H' h') : Inv X pins σ H' { s with heap := h', toks := t' } := by
  obtain ⟨m, ⟨o, es, ep, ho, r⟩, _⟩ := id I.loc
  obtain ⟨sl, hL⟩ := u.any ho I.free (by simp)
  exact I.step (g' := s.gens) (d' := s.drawn) (ch := []) (fun _ z => nomatch z) (fun b o _ hb _ e n => u.keep b o e n hb (by simp)) (fun b o _ hb _ e n => u.slot b o e n hb (by simp)) (fun b o _ e n => u.free b o e n (by simp)) (fun b o _ e => u.there b o e (by simp)) u.tups u.frzs u.tbls (fun m' hm => by
    obtain ⟨o', es', ep', ho', r'⟩ := hm
    rw [ho] at ho'; cases ho'
    exact ⟨_, es', ep', hL, r'⟩) hok I.bare
theorem Inv.call {g' : Array GenState} {t' : Nat} {d' : Drawn} {ch : List Addr} (I : Inv X pins σ H s) (u : Un (frs X.stack) ch H H' s.heap h') (hok : HOk X.prog X.w H' h') (hg : AllBare g')
    (hch : ∀ b ∈ ch, (b ∈ X.ex ∨ X.s₀.heap.objs.size ≤ b) ∧ b ≠ X.env.locals ∧ (∀ x c, X.env.cells.lookup x = some c → c ≠ b) ∧ ∀ p ∈ X.pn ++ pins, p.1 ≠ b) :
    Inv X pins σ H' { s with heap := h', gens := g', drawn := d', toks := t' } := by
  obtain ⟨m, ⟨o, es, ep, ho, r⟩, _⟩ := id I.loc
  obtain ⟨sl, hL⟩ := u.any ho I.free fun z => (hch _ z).2.1 rfl
  exact I.step (ch := ch) hch (fun b o hL hb hc e n => u.keep b o e n (fun z => (List.mem_cons.mp (I.stkSub b z)).elim hL hb) hc) (fun b o _ _ hc e n => u.any e n hc) (fun b o hc e n => u.free b o e n hc) (fun b o hc e => u.there b o e hc) u.tups u.frzs u.tbls (fun m' hm => by
    obtain ⟨o', es', ep', ho', r'⟩ := hm
    rw [ho] at ho'; cases ho'
    exact ⟨_, es', ep', hL, r'⟩) hok hg
theorem Inv.turned {t' : Nat} {it : Addr} (I : Inv X pins σ H s) (k : ∀ b o, b ≠ it → s.heap.get? b = some o → h'.get? b = some o) (hn : H it = none) (hL : it ≠ X.env.locals)
    (h1 : it ∈ X.ex ∨ X.s₀.heap.objs.size ≤ it) (h2 : ∀ x c, X.env.cells.lookup x = some c → c ≠ it) (h3 : ∀ p ∈ X.pn ++ pins, p.1 ≠ it) : Inv X pins σ H { s with heap := h', toks := t' } := by
  have nit : ∀ b u, H b = some u → b ≠ it := fun b u e z => by rw [z, hn] at e; cases e
  refine I.step (g' := s.gens) (d' := s.drawn) (ch := [it]) (fun b hb => ?_) (fun b o _ _ hc e _ => k b o (fun z => hc (by simp [z])) e) (fun b o _ _ hc e _ => ⟨o.slots, k b o (fun z => hc (by simp [z])) e⟩) (fun _ _ _ _ n => n)
    (fun b o hc e => ⟨o, k b o (fun z => hc (by simp [z])) e⟩) (fun _ _ e => e) (fun _ _ _ e => e) (fun b ps e => ⟨#[], by rw [e]; simp⟩) (fun m hm => ?_) (fun b u e => ?_) I.bare
  · have e : b = it := by simpa using hb
    subst e
    exact ⟨h1, hL, h2, h3⟩
  · obtain ⟨o, es, ep, ho, r⟩ := hm
    exact ⟨o, es, ep, k _ o (Ne.symm hL) ho, r⟩
  · refine (I.hok b u e).stay (fun c v hc q => k c v ?_ q) (fun _ q => q) fun _ _ q => q
    rcases hc with z | z
    · rw [z]; exact nit b u e
    · exact nit c _ z
theorem Inv.tok (I : Inv X pins σ H s) (t : Nat) : Inv X pins σ H { s with toks := t } := I.un (h' := s.heap) (t' := t) Un.refl I.hok
theorem Inv.kept {t' : Nat} (I : Inv X pins σ H s) (k : ∀ b u, s.heap.get? b = some u → h'.get? b = some u) : Inv X pins σ H { s with heap := h', toks := t' } := I.un (Un.kept k) (I.hok.kept k)
theorem Inv.laid {a : Addr} {o : HO} {t' : Nat} (I : Inv X pins σ H s) (k : ∀ b u, s.heap.get? b = some u → h'.get? b = some u) (hp : s.heap.objs.size ≤ a) (new : ObjOk X.prog X.w (upd H a o) h' a o) :
    Inv X pins σ (upd H a o) { s with heap := h', toks := t' } := I.un (Un.laid k hp (I.hok.fresh hp)) (I.hok.laid k hp new)
theorem Inv.write {x e : Addr} {o : HO} {t' : Nat} (I : Inv X pins σ H s) (mu : Mut (H x)) (he : e = x ∨ H e = some (.own x)) (k : ∀ b u, b ≠ e → s.heap.get? b = some u → h'.get? b = some u) (heo : ∃ u, h'.get? e = some u)
    (new : ObjOk X.prog X.w (upd H x o) h' x o) : Inv X pins σ (upd H x o) { s with heap := h', toks := t' } := I.un (Un.write mu he k heo) (I.hok.write mu he k heo new)
theorem Inv.pins_of {pins' : List (Addr × Obj)} (I : Inv X pins σ H s) (h : ∀ p ∈ pins', s.heap.get? p.1 = some p.2 ∧ H p.1 = none ∧ p.1 ≠ X.env.locals ∧ p.1 ∉ X.fs ∧ ∀ v, p.2.data ≠ .cell v) : Inv X pins' σ H s :=
  ⟨I.ok, I.os, I.bare, I.base, I.loc, I.cell, I.free, I.freeC, fun p hp => (List.mem_append.mp hp).elim (fun z => I.pin p (List.mem_append_left _ z)) (h p), I.hok, I.len⟩
theorem nodup_ix {N : List Str} (hN : N.Nodup) {i j : Nat} {x : Str} (a : N[i]? = some x) (b : N[j]? = some x) : i = j := by
  obtain ⟨h1, e1⟩ := List.getElem?_eq_some_iff.mp a
  obtain ⟨h2, e2⟩ := List.getElem?_eq_some_iff.mp b
  exact (List.getElem_inj hN).mp (e1.trans e2.symm)
theorem store_ok2 {M : Model} {A : Around} {E : Value → Shared → Prop} {i : Nat} {x : Str} {v : V} {u : Value} {Q : Unit → Shared → Prop} (I : Inv X pins σ H s) (hN : X.N.Nodup) (hi : X.N[i]? = some x) (hx : Loc X.env.scope x) (r : RelV v u)
    (h : ∀ s', Inv X pins (σ.set i (some v)) H s' → (∃ a, Heap.SameBut a s.heap s'.heap ∧ (a = X.env.locals ∨ X.env.cells.lookup x = some a)) → Q () s') (hf : X.fn x = true ∨ X.env.scope.names.lookup x = some .local := by first | exact .inl rfl | exact .inr rfl | assumption) : wpAny M A (storeName X.env x u) Q E s := by
  obtain ⟨m, hn, hl⟩ := id I.loc
  have hcls : (X.env.scope.kind == .class || (X.env.scope.kind == .module && X.env.locals != X.env.globals)) = false := by rw [I.ok.kind]; rfl
  have hiσ : i < σ.length := by rw [I.len]; exact (List.getElem?_eq_some_iff.mp hi).1
  have cne := I.cne
  have tracked : ∀ {a : Addr} {h' : Heap}, (∃ o, s.heap.get? a = some o ∧ H a = none) → Heap.SameBut a s.heap h' → HOk X.prog X.w H h' := fun {a h'} ha hs b ob e => by
    obtain ⟨_, _, hfree⟩ := ha
    refine (I.hok b ob e).stay (fun c w' hc q => (hs.2 c ?_).trans q) (fun _ q => q) fun _ _ q => q
    rintro rfl
    rcases hc with rfl | hc
    · rw [hfree] at e; cases e
    · rw [hfree] at hc; cases hc
  rcases hx with hk | hk
  · refine wpAny_storeName_local hk hn (fun h' hn' hs => ?_) hcls
    obtain ⟨oL, _, _, hoL, _⟩ := id hn
    refine h _ ⟨I.ok, I.os, I.bare, ⟨fun b o e n hb hx => ?_, fun b o e n hb hx => ?_, I.base.free, fun b o e hx => ?_, I.base.tups, I.base.frzs, I.base.tbls⟩, ⟨_, hn', fun j y v' e1 e2 e3 => ?_⟩, fun y c e => ?_, I.free, I.freeC, fun p hp => ?_, tracked ⟨oL, hoL, I.free⟩ hs, by simpa using I.len⟩ ⟨_, hs, .inl rfl⟩
    · exact (hs.2 b (Nat.ne_of_lt (Nat.lt_of_lt_of_le (Heap.lt_size e) I.ok.above))).trans (I.base.keep b o e n hb hx)
    · obtain ⟨sl, e1⟩ := I.base.slot b o e n hb hx
      exact ⟨sl, (hs.2 b (Nat.ne_of_lt (Nat.lt_of_lt_of_le (Heap.lt_size e) I.ok.above))).trans e1⟩
    · obtain ⟨o', e1⟩ := I.base.there b o e hx
      exact ⟨o', (hs.2 b (Nat.ne_of_lt (Nat.lt_of_lt_of_le (Heap.lt_size e) I.ok.above))).trans e1⟩
    · by_cases hj : j = i
      · subst hj
        rw [hi] at e1; cases e1
        rw [List.getElem?_set_self hiσ] at e2
        cases e2
        exact ⟨u, r, .inl ⟨hk, by simp⟩⟩
      · rw [List.getElem?_set_ne (Ne.symm hj)] at e2
        obtain ⟨u', r', q⟩ := hl j y v' e1 e2 e3
        refine ⟨u', r', ?_⟩
        rcases q with ⟨k, e⟩ | ⟨k, c, e, z⟩
        · refine .inl ⟨k, ?_⟩
          have : y ≠ x := fun e => hj (nodup_ix hN e1 (e ▸ hi))
          simp [this, e]
        · exact .inr ⟨k, c, e, z.sameBut hs (cne y c e)⟩
    · obtain ⟨w', z⟩ := I.cell y c e
      exact ⟨w', z.sameBut hs (cne y c e)⟩
    · obtain ⟨e, n, ne, nf, d⟩ := I.pin p hp
      exact ⟨(hs.2 p.1 ne).trans e, n, ne, nf, d⟩
  · have hfn : X.fn x = true := by
      rcases hf with z | z
      · exact z
      · rw [z] at hk; cases hk
    obtain ⟨c, hc⟩ := I.ok.has x (.inl hk)
    obtain ⟨w', z⟩ := I.cell x c hc
    refine wpAny_storeName_cell I.ok.kind hk hc z (fun h' hc' hs => ?_)
    obtain ⟨oc, hoc, hocd⟩ := id z
    refine h { s with heap := h' } ⟨I.ok, I.os, I.bare, ⟨fun b o e n hb hx => ?_, fun b o e n hb hx => ?_, I.base.free, fun b o e hx => ?_, I.base.tups, I.base.frzs, I.base.tbls⟩, ⟨m, hn.sameBut hs (Ne.symm (cne x c hc)), fun j y v' e1 e2 e3 => ?_⟩, fun y c' e => ?_, I.free, I.freeC, fun p hp => ?_, tracked ⟨oc, hoc, I.freeC x c hc⟩ hs, by simpa using I.len⟩ ⟨c, hs, .inr hc⟩
    · exact (hs.2 b (Nat.ne_of_lt (Nat.lt_of_lt_of_le (Heap.lt_size e) (I.ok.cab x c hfn hc)))).trans (I.base.keep b o e n hb hx)
    · obtain ⟨sl, e1⟩ := I.base.slot b o e n hb hx
      exact ⟨sl, (hs.2 b (Nat.ne_of_lt (Nat.lt_of_lt_of_le (Heap.lt_size e) (I.ok.cab x c hfn hc)))).trans e1⟩
    · obtain ⟨o', e1⟩ := I.base.there b o e hx
      exact ⟨o', (hs.2 b (Nat.ne_of_lt (Nat.lt_of_lt_of_le (Heap.lt_size e) (I.ok.cab x c hfn hc)))).trans e1⟩
    · by_cases hj : j = i
      · subst hj
        rw [hi] at e1; cases e1
        rw [List.getElem?_set_self hiσ] at e2
        cases e2
        exact ⟨u, r, .inr ⟨.inl hk, c, hc, hc'⟩⟩
      · rw [List.getElem?_set_ne (Ne.symm hj)] at e2
        obtain ⟨u', r', q⟩ := hl j y v' e1 e2 e3
        refine ⟨u', r', ?_⟩
        rcases q with q | ⟨k, c', e, z'⟩
        · exact .inl q
        · refine .inr ⟨k, c', e, z'.sameBut hs ?_⟩
          rintro rfl
          exact hj (nodup_ix hN e1 (I.ok.inj _ _ _ e hc ▸ hi))
    · by_cases hcc : c' = c
      · subst hcc; exact ⟨_, hc'⟩
      · obtain ⟨w2, z2⟩ := I.cell y c' e
        exact ⟨w2, z2.sameBut hs hcc⟩
    · obtain ⟨e, n, ne, nf, d⟩ := I.pin p hp
      refine ⟨(hs.2 p.1 ?_).trans e, n, ne, nf, d⟩
      intro q
      rw [q, hoc] at e
      have q' : oc = p.2 := Option.some.inj e
      exact d w' (by rw [← q']; exact hocd)
theorem store_ok {M : Model} {A : Around} {E : Value → Shared → Prop} {i : Nat} {x : Str} {v : V} {u : Value} {Q : Unit → Shared → Prop} (I : Inv X pins σ H s) (hN : X.N.Nodup) (hi : X.N[i]? = some x) (hx : Loc X.env.scope x) (r : RelV v u)
    (h : ∀ s', Inv X pins (σ.set i (some v)) H s' → Q () s') (hf : X.fn x = true ∨ X.env.scope.names.lookup x = some .local := by first | exact .inl rfl | exact .inr rfl | assumption) : wpAny M A (storeName X.env x u) Q E s :=
  store_ok2 I hN hi hx r (fun s' I' _ => h s' I') hf
theorem Inv.call' {s' : Shared} {ch : List Addr} (I : Inv X pins σ H s) (ho : s'.os = s.os) (u : Un (frs X.stack) ch H H' s.heap s'.heap) (hok : HOk X.prog X.w H' s'.heap) (hg : AllBare s'.gens)
    (hch : ∀ b ∈ ch, (b ∈ X.ex ∨ X.s₀.heap.objs.size ≤ b) ∧ b ≠ X.env.locals ∧ (∀ x c, X.env.cells.lookup x = some c → c ≠ b) ∧ ∀ p ∈ X.pn ++ pins, p.1 ≠ b) : Inv X pins σ H' s' := by
  obtain ⟨h', g', d', t', o'⟩ := s'
  have e : o' = s.os := ho
  subst e
  exact I.call (g' := g') (t' := t') (d' := d') u hok hg hch
end
abbrev XK := Value → Option Addr → Hp → Prop
abbrev St := List (Option V)
abbrev VK := V → Hp → Prop
abbrev TE := St → Hp → VK → Prop
abbrev TT := St → Hp → (Bool → Hp → Prop) → Prop
abbrev TA := St → Hp → (List V → Hp → Prop) → Prop
structure Ends where
  nx : St → Hp → Prop
  rt : VK
  bk : St → Hp → Prop := fun _ _ => False
  ct : St → Hp → Prop := fun _ _ => False
abbrev TS := Ends → St → Hp → Prop
def EP (X : Cx) (pins : List (Addr × Obj)) (σ : St) (Q : VK) (u : Value) (s' : Shared) : Prop := ∃ v H', Inv X pins σ H' s' ∧ RelV v u ∧ Q v H'
def TP (X : Cx) (pins : List (Addr × Obj)) (σ : St) (Q : Bool → Hp → Prop) (b : Bool) (s' : Shared) : Prop := ∃ H', Inv X pins σ H' s' ∧ Q b H'
def AP (X : Cx) (pins : List (Addr × Obj)) (σ : St) (Q : List V → Hp → Prop) (us : List Value) (s' : Shared) : Prop := ∃ vs H', Inv X pins σ H' s' ∧ Vals vs us ∧ Q vs H'
def SP (X : Cx) (pins : List (Addr × Obj)) (D : Ends) (f : Flow) (s' : Shared) : Prop :=
  match f with
  | .next => ∃ σ' H', Inv X pins σ' H' s' ∧ D.nx σ' H'
  | .brk => ∃ σ' H', Inv X pins σ' H' s' ∧ D.bk σ' H'
  | .cont => ∃ σ' H', Inv X pins σ' H' s' ∧ D.ct σ' H'
  | .ret u => ∃ v σ' H', Inv X pins σ' H' s' ∧ RelV v u ∧ D.rt v H'
def PE (X : Cx) (e : Expr) (t : TE) : Prop :=
  ∀ (pins : List (Addr × Obj)) (s : Shared) (σ : St) (H : Hp) (Q : VK), Inv X pins σ H s → t σ H Q → wpAny (model X.prog X.w) X.A (eval e X.env) (EP X pins σ Q) X.xe s
def PT (X : Cx) (e : Expr) (t : TT) : Prop :=
  ∀ (pins : List (Addr × Obj)) (s : Shared) (σ : St) (H : Hp) (Q : Bool → Hp → Prop), Inv X pins σ H s → t σ H Q → wpAny (model X.prog X.w) X.A (isTrue e X.env (eval e X.env)) (TP X pins σ Q) X.xe s
def PW (X : Cx) (e : Expr) (t : TT) : Prop :=
  ∀ (whole : Sem Value) (pins : List (Addr × Obj)) (s : Shared) (σ : St) (H : Hp) (Q : Bool → Hp → Prop), Inv X pins σ H s → t σ H Q → wpAny (model X.prog X.w) X.A (isTrue e X.env whole) (TP X pins σ Q) X.xe s
theorem PW.pt {X : Cx} {e : Expr} {t : TT} (h : PW X e t) : PT X e t := h _
def PA (X : Cx) (es : List Expr) (t : TA) : Prop :=
  ∀ (pos : Pos) (pins : List (Addr × Obj)) (s : Shared) (σ : St) (H : Hp) (Q : List V → Hp → Prop), Inv X pins σ H s → t σ H Q → wpAny (model X.prog X.w) X.A (spliced (backTo pos (starEach es X.env))) (AP X pins σ Q) X.xe s
def PS (X : Cx) (st : Stmt) (t : TS) : Prop :=
  ∀ (pins : List (Addr × Obj)) (s : Shared) (σ : St) (H : Hp) (D : Ends), Inv X pins σ H s → t D σ H → wpAny (model X.prog X.w) X.A (exec st X.env) (SP X pins D) X.xe s
def PSs (X : Cx) (st : List Stmt) (t : TS) : Prop :=
  ∀ (pins : List (Addr × Obj)) (s : Shared) (σ : St) (H : Hp) (D : Ends), Inv X pins σ H s → t D σ H → wpAny (model X.prog X.w) X.A (execs st X.env) (SP X pins D) X.xe s
theorem thn {α : Type} {t : Sem α} {Q Q' : α → Shared → Prop} {M : Model} {A : Around} {E : Value → Shared → Prop} {s : Shared} (h : wpAny M A t Q E s) (hQ : ∀ a s, Q a s → Q' a s) : wpAny M A t Q' E s := wpAny_mono h hQ fun _ _ x => x
end L2
namespace L2
open PySem PySem.Spec PyProof.Rows
section
variable {X : Cx}
def tVar (i : Nat) : TE := fun σ H Q => ∃ v, σ[i]? = some (some v) ∧ Q v H
def tC (v : V) : TE := fun _ H Q => Q v H
theorem pe_var {i : Nat} {x : Str} {pos : Pos} (hN : X.N[i]? = some x) (hv : Vis X.env.scope x) (hd : (x == ("__debug__" : Str)) = false := by decide) (hcd : (x == ("__classdict__" : Str)) = false := by decide) : PE X (.Name x pos) (tVar i) := by
  intro pins s σ H Q I h
  obtain ⟨v, e, h⟩ := h
  obtain ⟨m, hn, hl⟩ := I.loc
  obtain ⟨u, r, l⟩ := hl i x v hN e hv
  have fin : EP X pins σ Q u s := ⟨v, H, I, r, h⟩
  rcases l with ⟨hk, hm⟩ | ⟨hk, c, hc, hcell⟩
  · exact wpAny_Name (wpAny_loadName_local I.ok.kind hk hn hm fin) hd
  · rcases hk with hk | hk
    · exact wpAny_Name (wpAny_loadName_cell I.ok.kind hk hc hcell fin) hd
    · exact wpAny_Name (wpAny_loadName_free I.ok.kind hk hc hcell fin hcd) hd
theorem pe_int {i j pos} : PE X (.Constant (.int i) j pos) (tC (.int i)) := fun _ _ _ H _ I h => wpAny_Constant_int ⟨.int i, H, I.tok _, ⟨_, rfl⟩, h⟩
theorem pe_bl {b j pos} : PE X (.Constant (.bool b) j pos) (tC (.bl b)) := fun _ _ _ H _ I h => Constant_bool ⟨.bl b, H, I, rfl, h⟩
theorem pe_non {j pos} : PE X (.Constant .none j pos) (tC .non) := fun _ _ _ H _ I h => Constant_none ⟨.non, H, I, rfl, h⟩
theorem pe_str {x j pos} : PE X (.Constant (.str x) j pos) (tC (.str x)) := fun _ _ _ H _ I h => Calls.Constant_str ⟨.str x, H, I.tok _, ⟨_, rfl⟩, h⟩
def Gl (X : Cx) (x : Str) : Prop := X.env.kindOf x = some .globalImplicit
theorem ld_glob {E : Value → Shared → Prop} {pins : List (Addr × Obj)} {s : Shared} {σ : St} {H : Hp} {x : Str} {u : Value} {pos : Pos} {Q : Value → Shared → Prop} (I : Inv X pins σ H s) (hg : Gl X x) (hm : X.mg x = some u) (h : Q u s)
    (hd : (x == ("__debug__" : Str)) = false := by decide) : wpAny (model X.prog X.w) X.A (eval (.Name x pos) X.env) Q E s :=
  Calls.Name_function_global I.ok.kind hg (Calls.loadGlobal_global (by rw [I.ok.glob]; exact I.mod.glob.keeps I.bk) hm h) hd
theorem ld_blt {E : Value → Shared → Prop} {pins : List (Addr × Obj)} {s : Shared} {σ : St} {H : Hp} {x : Str} {u : Value} {pos : Pos} {Q : Value → Shared → Prop} (I : Inv X pins σ H s) (hg : Gl X x) (hm : X.mg x = none) (hv : bootBuiltins x = some u) (h : Q u s)
    (hn : x ≠ "__name__" := by decide) (hd : (x == ("__debug__" : Str)) = false := by decide) : wpAny (model X.prog X.w) X.A (eval (.Name x pos) X.env) Q E s := by
  obtain ⟨mb, h1, h2⟩ := I.mod.blt
  exact Calls.Name_function_global I.ok.kind hg (Calls.loadGlobal_builtin (by rw [I.ok.glob]; exact I.mod.glob.keeps I.bk) hm (by rw [I.ok.blt]; exact h1.keeps I.bk) ((h2 x hn).trans hv) h) hd
theorem pe_glob {x : Str} {v : V} {u : Value} {pos : Pos} (hg : Gl X x) (hm : X.mg x = some u) (r : RelV v u) (hd : (x == ("__debug__" : Str)) = false := by decide) : PE X (.Name x pos) (tC v) :=
  fun _ _ _ H _ I h => ld_glob I hg hm ⟨v, H, I, r, h⟩ hd
theorem pe_bltn {x : Str} {v : V} {u : Value} {pos : Pos} (hg : Gl X x) (hm : X.mg x = none) (hv : bootBuiltins x = some u) (r : RelV v u) (hn : x ≠ "__name__" := by decide) (hd : (x == ("__debug__" : Str)) = false := by decide) : PE X (.Name x pos) (tC v) :=
  fun _ _ _ H _ I h => ld_blt I hg hm hv ⟨v, H, I, r, h⟩ hn hd
variable {a b : Expr} {ta tb : TE} {pos : Pos}
def PC (X : Cx) (op : CmpOp) (a b : Expr) (t : TE) : Prop :=
  ∀ (pins : List (Addr × Obj)) (s : Shared) (σ : St) (H : Hp) (Q : VK), Inv X pins σ H s → t σ H Q →
    wpAny (model X.prog X.w) X.A (eval a X.env) (fun v s₁ => wpAny (model X.prog X.w) X.A (eval b X.env) (fun u s₂ => wpAny (model X.prog X.w) X.A (compareOp op v u) (EP X pins σ Q) X.xe s₂) X.xe s₁) X.xe s
theorem nobehind (b : Expr) {op : CmpOp} (h : op ≠ .In) (h2 : op ≠ .NotIn) : behindInMarks op b = false := by
  have e1 : (op == CmpOp.In) = false := by cases op <;> first | rfl | exact absurd rfl h
  have e2 : (op == CmpOp.NotIn) = false := by cases op <;> first | rfl | exact absurd rfl h2
  cases b <;> simp [behindInMarks, e1, e2]
def tIsN (ta : TE) : TE := fun σ H Q => ta σ H fun x H1 => Q (.bl (decide (x = .non))) H1
def tNotN (ta : TE) : TE := fun σ H Q => ta σ H fun x H1 => Q (.bl (!decide (x = .non))) H1
theorem RelV.none_iff {x : V} {v : Value} (r : RelV x v) : (v == Value.none) = decide (x = .non) := by
  cases x with
  | non => cases r; rfl
  | bl _ => cases r; rfl
  | int _ => obtain ⟨t, rfl⟩ := r; rfl
  | str _ => obtain ⟨t, rfl⟩ := r; rfl
  | byt _ => obtain ⟨t, rfl⟩ := r; rfl
  | flt _ => obtain ⟨t, rfl⟩ := r; rfl
  | ref _ => cases r; rfl
  | ty _ => cases r; rfl
theorem pc_isN {j pos'} (ha : PE X a ta) : PC X .Is a (.Constant .none j pos') (tIsN ta) := by
  intro pins s σ H Q I h
  refine thn (ha pins s σ H _ I h) fun v s1 ⟨x, H1, I1, r1, q1⟩ => ?_
  exact Constant_none (is_none_gen ⟨.bl _, H1, I1, by rw [r1.none_iff]; rfl, q1⟩)
theorem pc_notN {j pos'} (ha : PE X a ta) : PC X .IsNot a (.Constant .none j pos') (tNotN ta) := by
  intro pins s σ H Q I h
  refine thn (ha pins s σ H _ I h) fun v s1 ⟨x, H1, I1, r1, q1⟩ => ?_
  exact Constant_none (isnot_none_gen ⟨.bl _, H1, I1, by rw [r1.none_iff]; rfl, q1⟩)
def tB (t : TE) : TT := fun σ H Q => t σ H fun x H1 => ∃ c, x = .bl c ∧ Q c H1
theorem pe_cmp {op : CmpOp} {t : TE} (h : PC X op a b t) (h1 : behindInMarks op b = false := by first | exact nobehind _ (by decide) (by decide) | rfl) : PE X (.Compare a [op] [b] pos) t := fun pins s σ H Q I hw => wpAny_Compare1 (h pins s σ H Q I hw) h1
theorem pt_cmp {op : CmpOp} {t : TE} (h : PC X op a b t) (h1 : behindInMarks op b = false := by first | exact nobehind _ (by decide) (by decide) | rfl) : PT X (.Compare a [op] [b] pos) (tB t) := by
  intro pins s σ H Q I hw
  refine wpAny_isTrue_Compare1 (thn (h pins s σ H _ I hw) fun v s1 h1 => thn h1 fun u s2 h2 => thn h2 fun c s3 ⟨x, H1, I1, r1, q1⟩ => ?_) h1
  obtain ⟨d, rfl, q⟩ := q1
  cases r1
  exact wpAny_truthy_bool ⟨H1, I1, q⟩
theorem pt_val {e : Expr} {t : TE} (h : PE X e t) (he : ∀ whole, isTrue e X.env whole = (do let v ← whole; standAt e.pos; holding [v] (truthy v)) := by intro _; rfl) : PT X e (tB t) := by
  intro pins s σ H Q I hw
  refine isTrue_plain (thn (h pins s σ H _ I hw) fun v s1 ⟨x, H1, I1, r1, q1⟩ => ?_) (he _)
  obtain ⟨d, rfl, q⟩ := q1
  cases r1
  exact wpAny_truthy_bool ⟨H1, I1, q⟩
variable {tA tB' : TT} {rest : List Expr}
def tAnd (t u : TT) : TT := fun σ H Q => t σ H fun c H1 => if c = true then u σ H1 Q else Q false H1
def tOr (t u : TT) : TT := fun σ H Q => t σ H fun c H1 => if c = true then Q true H1 else u σ H1 Q
def tNot (t : TT) : TT := fun σ H Q => t σ H fun c H1 => Q (!c) H1
theorem pw_and1 (ha : PT X a tA) : PW X (.BoolOp .And [a] pos) tA := by
  intro wh pins s σ H Q I h
  refine isTrue_and (thn (ha pins s σ H Q I h) fun c s1 e => ?_)
  cases c with
  | true => exact isTrue_and_nil e
  | false => exact e
theorem pw_or1 (ha : PT X a tA) : PW X (.BoolOp .Or [a] pos) tA := by
  intro wh pins s σ H Q I h
  refine isTrue_or (thn (ha pins s σ H Q I h) fun c s1 e => ?_)
  cases c with
  | false => exact isTrue_or_nil e
  | true => exact e
theorem pw_and (ha : PT X a tA) (hb : PW X (.BoolOp .And (b :: rest) pos) tB') : PW X (.BoolOp .And (a :: b :: rest) pos) (tAnd tA tB') := by
  intro wh pins s σ H Q I h
  refine isTrue_and (thn (ha pins s σ H _ I h) fun c s1 ⟨H1, I1, q1⟩ => ?_)
  cases c with
  | true => exact hb wh pins s1 σ H1 Q I1 q1
  | false => exact ⟨H1, I1, q1⟩
theorem pw_or (ha : PT X a tA) (hb : PW X (.BoolOp .Or (b :: rest) pos) tB') : PW X (.BoolOp .Or (a :: b :: rest) pos) (tOr tA tB') := by
  intro wh pins s σ H Q I h
  refine isTrue_or (thn (ha pins s σ H _ I h) fun c s1 ⟨H1, I1, q1⟩ => ?_)
  cases c with
  | true => exact ⟨H1, I1, q1⟩
  | false => exact hb wh pins s1 σ H1 Q I1 q1
theorem pt_not (ha : PT X a tA) : PT X (.UnaryOp .Not a pos) (tNot tA) := by
  intro pins s σ H Q I h
  exact isTrue_not (ha pins s σ H (fun c H1 => Q (!c) H1) I h)
def tAndV (ta tb : TE) : TE := fun σ H Q => ta σ H fun x H1 => ∃ c, x = .bl c ∧ if c = true then tb σ H1 Q else Q (.bl false) H1
def tOrV (ta tb : TE) : TE := fun σ H Q => ta σ H fun x H1 => ∃ c, x = .bl c ∧ if c = true then Q (.bl true) H1 else tb σ H1 Q
def tNotV (ta : TE) : TE := fun σ H Q => ta σ H fun x H1 => ∃ c, x = .bl c ∧ Q (.bl (!c)) H1
theorem pe_one {op} {t : TE} (h : PE X a t) : PE X (.BoolOp op [a] pos) t := fun pins s σ H Q I hw => BoolOp_one (h pins s σ H Q I hw)
theorem pe_and (ha : PE X a ta) (hb : PE X (.BoolOp .And (b :: rest) pos) tb) : PE X (.BoolOp .And (a :: b :: rest) pos) (tAndV ta tb) := by
  intro pins s σ H Q I h
  refine BoolOp_and (thn (ha pins s σ H _ I h) fun v s1 ⟨x, H1, I1, r1, q1⟩ => ?_)
  obtain ⟨c, rfl, q1⟩ := q1
  cases r1
  refine wpAny_truthy_bool ?_
  cases c with
  | true => exact hb pins s1 σ H1 Q I1 q1
  | false => exact ⟨.bl false, H1, I1, rfl, q1⟩
theorem pe_not (ha : PE X a ta) : PE X (.UnaryOp .Not a pos) (tNotV ta) := by
  intro pins s σ H Q I h
  refine UnaryOp_ (thn (ha pins s σ H _ I h) fun v s1 ⟨x, H1, I1, r1, q1⟩ => ?_)
  obtain ⟨c, rfl, q1⟩ := q1
  cases r1
  exact not_of (wpAny_truthy_bool ⟨.bl (!c), H1, I1, rfl, q1⟩)
def tIf (t : TT) (ta tb : TE) : TE := fun σ H Q => t σ H fun c H1 => if c = true then ta σ H1 Q else tb σ H1 Q
theorem pe_ifExp {c : Expr} (hc : PT X c tA) (ha : PE X a ta) (hb : PE X b tb) : PE X (.IfExp c a b pos) (tIf tA ta tb) := by
  intro pins s σ H Q I h
  refine wpAny_IfExp (thn (hc pins s σ H _ I h) fun d s1 ⟨H1, I1, q1⟩ => ?_)
  cases d with
  | true => exact ha pins s1 σ H1 Q I1 q1
  | false => exact hb pins s1 σ H1 Q I1 q1
end
end L2
namespace L2
open PySem PySem.Spec PyProof.Rows
def SqL (K : PySem.W.Frag) (H : Hp) (a : Addr) (xs : List V) : Prop :=
  Rd H a (.lst xs) ∨
    ∃ (o : Obj) (its : Array Value) (n : Nat), K.lookup a = some o ∧ o.cls = .type "list" ∧ o.dict = none ∧ o.data = .seq its n ∧ its.size ≤ sizeLine ∧ Vals xs its.toList
def SqT (K : PySem.W.Frag) (H : Hp) (a : Addr) (xs : List V) : Prop :=
  Rd H a (.tup xs) ∨
    ∃ (o : Obj) (its : Array Value) (n : Nat), K.lookup a = some o ∧ o.cls = .type "tuple" ∧ o.data = .seq its n ∧ its.size ≤ sizeLine ∧ Vals xs its.toList
def absV : Value → Option V
  | .none => some .non
  | .bool b => some (.bl b)
  | .int i _ => some (.int i)
  | .str x _ => some (.str x)
  | .bytes b _ => some (.byt b)
  | .float b _ => some (.flt b)
  | .ref a => some (.ref a)
  | .type n => some (.ty n)
  | _ => none
theorem RelV.abs {x : V} {u : Value} (r : RelV x u) : absV u = some x := by
  cases x with
  | non => cases r; rfl
  | bl _ => cases r; rfl
  | int _ => obtain ⟨t, rfl⟩ := r; rfl
  | str _ => obtain ⟨t, rfl⟩ := r; rfl
  | byt _ => obtain ⟨t, rfl⟩ := r; rfl
  | flt _ => obtain ⟨t, rfl⟩ := r; rfl
  | ref _ => cases r; rfl
  | ty _ => cases r; rfl
theorem RelV.inj {x y : V} {u : Value} (r : RelV x u) (q : RelV y u) : x = y := Option.some.inj (r.abs.symm.trans q.abs)
theorem Vals.inj : ∀ {xs ys : List V} {us : List Value}, Vals xs us → Vals ys us → xs = ys
  | _, _, _, .nil, .nil => rfl
  | _, _, _, .cons r t, .cons r' t' => by rw [r.inj r', Vals.inj t t']
section
variable {X : Cx} {pins : List (Addr × Obj)} {σ : St} {H : Hp} {s : Shared} {a : Addr} {xs ys : List V}
theorem SqL.of {K : PySem.W.Frag} (h : H a = some (.lst xs)) : SqL K H a xs := .inl (.inl h)
theorem SqT.of {K : PySem.W.Frag} (h : H a = some (.tup xs)) : SqT K H a xs := .inl (.inl h)
theorem Inv.list (I : Inv X pins σ H s) (h : SqL X.K H a xs) : ∃ its : List Value, Vals xs its ∧ PlainL s.heap a its.toArray ∧ xs.length ≤ sizeLine := by
  rcases h with h | ⟨o, its, n, hk, hc, hd, hs, hz, r⟩
  · obtain ⟨z, its, n, r, e⟩ := h.ok I.hok
    exact ⟨its, r, ⟨_, n, e, rfl, rfl, rfl⟩, z⟩
  · refine ⟨its.toList, r, ⟨o, n, I.kIn a o hk, hc, hd, by simpa using hs⟩, ?_⟩
    have e := r.length
    simp only [Array.length_toList] at e
    omega
theorem Inv.tuple (I : Inv X pins σ H s) (h : SqT X.K H a xs) : ∃ its : List Value, Vals xs its ∧ IsTup s.heap a its.toArray ∧ xs.length ≤ sizeLine := by
  rcases h with h | ⟨o, its, n, hk, hc, hs, hz, r⟩
  · obtain ⟨z, its, r, p⟩ := h.ok I.hok
    exact ⟨its, r, p, z.1⟩
  · refine ⟨its.toList, r, ⟨o, I.kIn a o hk, hc, n, by simpa using hs⟩, ?_⟩
    have e := r.length
    simp only [Array.length_toList] at e
    omega
theorem Inv.list_inj (I : Inv X pins σ H s) (h : SqL X.K H a xs) (h' : SqL X.K H a ys) : xs = ys := by
  obtain ⟨its, r, ⟨o, n, e, _, _, d⟩, _⟩ := I.list h
  obtain ⟨its', r', ⟨o', n', e', _, _, d'⟩, _⟩ := I.list h'
  rw [e] at e'; cases e'
  rw [d] at d'
  injection d' with d1 _
  have : its = its' := by simpa using congrArg Array.toList d1
  subst this
  exact r.inj r'
theorem Inv.tuple_inj (I : Inv X pins σ H s) (h : SqT X.K H a xs) (h' : SqT X.K H a ys) : xs = ys := by
  obtain ⟨its, r, ⟨o, e, _, n, d⟩, _⟩ := I.tuple h
  obtain ⟨its', r', ⟨o', e', _, n', d'⟩, _⟩ := I.tuple h'
  rw [e] at e'; cases e'
  rw [d] at d'
  injection d' with d1 _
  have : its = its' := by simpa using congrArg Array.toList d1
  subst this
  exact r.inj r'
end
abbrev Cx.wish (X : Cx) (E : Value → Shared → Prop) : Cx := { X with xe := E }
abbrev Cx.nox (X : Cx) : Cx := X.wish fun _ _ => False
theorem Cx.Ok.wish {X : Cx} (ok : X.Ok) (E : Value → Shared → Prop) : (X.wish E).Ok :=
  ⟨ok.mod, ok.kind, ok.glob, ok.blt, ok.above, ok.inj, ok.has, ok.cab, ok.hd, ok.frames, ok.stk, ok.exf, ok.bs, ok.bsz, ok.noex, ok.exfs, ok.funs, ok.frf⟩
theorem Cx.Ok.unwish {X : Cx} {E : Value → Shared → Prop} (ok : (X.wish E).Ok) : X.Ok :=
  ⟨ok.mod, ok.kind, ok.glob, ok.blt, ok.above, ok.inj, ok.has, ok.cab, ok.hd, ok.frames, ok.stk, ok.exf, ok.bs, ok.bsz, ok.noex, ok.exfs, ok.funs, ok.frf⟩
section
variable {X : Cx} {pins : List (Addr × Obj)} {σ : St} {H : Hp} {s : Shared} {E : Value → Shared → Prop}
theorem Inv.wish (I : Inv X pins σ H s) (E : Value → Shared → Prop) : Inv (X.wish E) pins σ H s := ⟨I.ok.wish E, I.os, I.bare, I.base, I.loc, I.cell, I.free, I.freeC, I.pin, I.hok, I.len⟩
theorem Inv.unwish (I : Inv (X.wish E) pins σ H s) : Inv X pins σ H s := ⟨I.ok.unwish, I.os, I.bare, I.base, I.loc, I.cell, I.free, I.freeC, I.pin, I.hok, I.len⟩
theorem SP.unwish {D : Ends} {f : Flow} {s' : Shared} (h : SP (X.wish E) pins D f s') : SP X pins D f s' := by
  cases f with
  | next => obtain ⟨σ', H', I, q⟩ := h; exact ⟨σ', H', I.unwish, q⟩
  | brk => obtain ⟨σ', H', I, q⟩ := h; exact ⟨σ', H', I.unwish, q⟩
  | cont => obtain ⟨σ', H', I, q⟩ := h; exact ⟨σ', H', I.unwish, q⟩
  | ret u => obtain ⟨v, σ', H', I, r, q⟩ := h; exact ⟨v, σ', H', I.unwish, r, q⟩
theorem PSs.nox {st : List Stmt} {t : TS} (h : PSs X.nox st t) : PSs X st t := fun pins s σ H D I hw =>
  wpAny_mono (h pins s σ H D (I.wish _) hw) (fun _ _ q => q.unwish) fun _ _ z => False.elim z
end
section
variable {X : Cx} {st : Stmt} {rest : List Stmt} {t u : TS} {e : Expr} {te : TE} {pos : Pos}
def tNext : TS := fun D σ H => D.nx σ H
def tSeq (t u : TS) : TS := fun D σ H => t { D with nx := u D } σ H
theorem pss_nil : PSs X [] tNext := fun _ _ σ H _ I h => wpAny_execs_nil ⟨σ, H, I, h⟩
theorem pss_cons (h1 : PS X st t) (h2 : PSs X rest u) : PSs X (st :: rest) (tSeq t u) := by
  intro pins s σ H D I h
  refine wpAny_execs_cons (thn (h1 pins s σ H { D with nx := u D } I h) fun f s1 q => ?_)
  cases f with
  | next =>
    obtain ⟨σ', H', I', q⟩ := q
    exact h2 pins s1 σ' H' D I' q
  | ret v => exact q
  | brk => exact q
  | cont => exact q
theorem pss_one (h1 : PS X st t) : PSs X [st] t := by
  intro pins s σ H D I h
  refine wpAny_execs_cons (thn (h1 pins s σ H D I h) fun f s1 q => ?_)
  cases f with
  | next => exact wpAny_execs_nil q
  | ret v => exact q
  | brk => exact q
  | cont => exact q
theorem Inv.quiet {pins : List (Addr × Obj)} {σ : St} {H : Hp} {s : Shared} (I : Inv X pins σ H s) : interactive X.env = false := by simp [interactive, I.ok.kind]
def tDrop (te : TE) : TS := fun D σ H => te σ H fun _ H1 => D.nx σ H1
theorem ps_expr (he : PE X e te) (hs : swapsWith e none pos.line X.env = pure false := by rfl) : PS X (.Expr e pos) (tDrop te) := by
  intro pins s σ H D I h
  exact wpAny_Expr_any (thn (he pins s σ H _ I h) fun v s1 ⟨x, H1, I1, r1, q1⟩ => ⟨σ, H1, I1, q1⟩) I.quiet hs
def tRet (te : TE) : TS := fun D σ H => te σ H D.rt
theorem ps_ret (he : PE X e te) : PS X (.Return (some e) pos) (tRet te) := by
  intro pins s σ H D I h
  exact wpAny_Return_some (thn (he pins s σ H _ I h) fun v s1 ⟨x, H1, I1, r1, q1⟩ => ⟨x, σ, H1, I1, r1, q1⟩)
def tIfS (c : TT) (t u : TS) : TS := fun D σ H => c σ H fun b H1 => if b = true then t D σ H1 else u D σ H1
theorem ps_if {c : Expr} {a b : List Stmt} {tc : TT} (hc : PT X c tc) (ha : PSs X a t) (hb : PSs X b u) : PS X (.If c a b pos) (tIfS tc t u) := by
  intro pins s σ H D I h
  refine wpAny_If (thn (hc pins s σ H _ I h) fun d s1 ⟨H1, I1, q1⟩ => ?_)
  cases d with
  | true => exact ha pins s1 σ H1 D I1 q1
  | false => exact hb pins s1 σ H1 D I1 q1
end
abbrev TG := V → St → Hp → (St → Hp → Prop) → Prop
abbrev TGs := List V → St → Hp → (St → Hp → Prop) → Prop
def PG (X : Cx) (target : Expr) (t : TG) : Prop :=
  ∀ (pins : List (Addr × Obj)) (s : Shared) (σ : St) (H : Hp) (v : V) (u : Value) (Q : St → Hp → Prop), Inv X pins σ H s → RelV v u → t v σ H Q →
    wpAny (model X.prog X.w) X.A (assign target X.env u) (fun _ s' => ∃ σ' H', Inv X pins σ' H' s' ∧ Q σ' H') X.xe s
def PGs (X : Cx) (ts : List Expr) (t : TGs) : Prop :=
  ∀ (pins : List (Addr × Obj)) (s : Shared) (σ : St) (H : Hp) (vs : List V) (us : List Value) (Q : St → Hp → Prop), Inv X pins σ H s → Vals vs us → t vs σ H Q →
    wpAny (model X.prog X.w) X.A (assignInOrder ((assignEach ts X.env).map (·.2)) us) (fun _ s' => ∃ σ' H', Inv X pins σ' H' s' ∧ Q σ' H') X.xe s
abbrev TSet := V → V → V → Hp → (Hp → Prop) → Prop
def PSet (X : Cx) (t : TSet) : Prop :=
  ∀ (pins : List (Addr × Obj)) (s : Shared) (σ : St) (H : Hp) (o i v : V) (ov iv u : Value) (Q : Hp → Prop), Inv X pins σ H s → RelV o ov → RelV i iv → RelV v u → t o i v H Q →
    wpAny (model X.prog X.w) X.A (setItem ov iv u) (fun _ s' => ∃ H', Inv X pins σ H' s' ∧ Q H') X.xe s
abbrev TIp := V → V → Hp → VK → Prop
def PIp (X : Cx) (op : Operator) (t : TIp) : Prop :=
  ∀ (pins : List (Addr × Obj)) (s : Shared) (σ : St) (H : Hp) (x y : V) (v u : Value) (Q : VK), Inv X pins σ H s → RelV x v → RelV y u → t x y H Q →
    wpAny (model X.prog X.w) X.A (inplaceOp op v u) (EP X pins σ Q) X.xe s
section
variable {X : Cx} {pos : Pos}
def gName (i : Nat) : TG := fun v σ H Q => Q (σ.set i (some v)) H
theorem pg_name {i : Nat} {x : Str} (hN : X.N.Nodup) (hi : X.N[i]? = some x) (hx : Loc X.env.scope x) (hf : X.fn x = true ∨ X.env.scope.names.lookup x = some .local := by first | exact .inl rfl | exact .inr rfl | assumption) : PG X (.Name x pos) (gName i) := by
  intro pins s σ H v u Q I r h
  exact wpAny_assign_Name (store_ok I hN hi hx r (fun s' I' => ⟨_, H, I', h⟩) hf)
def gNil : TGs := fun vs σ H Q => vs = [] ∧ Q σ H
def gCons (t : TG) (u : TGs) : TGs := fun vs σ H Q => ∃ v r, vs = v :: r ∧ t v σ H fun σ' H' => u r σ' H' Q
theorem pgs_nil : PGs X [] gNil := by
  intro pins s σ H vs us Q I r h
  obtain ⟨e, h⟩ := h
  subst e
  cases r
  exact assignInOrder_nil ⟨σ, H, I, h⟩
theorem pgs_cons {e : Expr} {es : List Expr} {t : TG} {u : TGs} (h1 : PG X e t) (h2 : PGs X es u)
    (hs : (assignEach (e :: es) X.env).map (·.2) = assign e X.env :: (assignEach es X.env).map (·.2) := by rfl) : PGs X (e :: es) (gCons t u) := by
  intro pins s σ H vs us Q I r h
  obtain ⟨v, vr, e1, h⟩ := h
  subst e1
  cases r with
  | cons r rr =>
    rw [hs]
    refine assignInOrder_cons (thn (h1 pins s σ H _ _ _ I r h) fun _ s1 ⟨σ1, H1, I1, q1⟩ => ?_)
    exact h2 pins s1 σ1 H1 _ _ Q I1 rr q1
def gTup (K : PySem.W.Frag) (n : Nat) (t : TGs) : TG := fun v σ H Q => ∃ a xs, v = .ref a ∧ SqT K H a xs ∧ xs.length = n ∧ t xs σ H Q
theorem pg_tup {es : List Expr} {k : Nat} {t : TGs} {n : Nat} (hc : X.calm = true) (h : PGs X es t)
    (hn : (assignEach es X.env).length = n := by rfl) (hst : (assignEach es X.env).findIdx? (·.1) = none := by rfl) : PG X (.Tuple es k pos) (gTup X.K n t) := by
  intro pins s σ H v u Q I r hw
  obtain ⟨a, xs, e1, hq, hl, hw⟩ := hw
  subst e1
  cases r
  obtain ⟨its, rv, ht, hz⟩ := I.tuple hq
  refine assign_Tuple_tuple (I.ok.hd hc) ht (by simp [hn, ← hl, rv.length]) hst fun h' hx => ?_
  have I1 : Inv X pins σ H { s with heap := h' } := I.kept (t' := s.toks) fun b o e => hx b o (Nat.ne_of_lt (Heap.lt_size e)) e
  exact h pins _ σ H xs _ Q I1 (by simpa using rv) hw
def gSub (to ti : TE) (t : TSet) : TG := fun v σ H Q => to σ H fun o H1 => ti σ H1 fun i H2 => t o i v H2 fun H3 => Q σ H3
theorem pg_sub {o i : Expr} {to ti : TE} {t : TSet} (ho : PE X o to) (hi : PE X i ti) (hs : PSet X t)
    (ha : ∀ v, assign (.Subscript o i pos) X.env v = (do
      let ov ← holding [v] (eval o X.env)
      let iv ← holding [v, ov] (eval i X.env)
      standAt pos
      holding [v, ov, iv] (setItem ov iv v)
      release [v, ov, iv] []) := by intro _; rfl) : PG X (.Subscript o i pos) (gSub to ti t) := by
  intro pins s σ H v u Q I r h
  rw [ha]
  refine wpAny_bind (wpAny_holding (thn (ho pins s σ H _ I h) fun ov s1 ⟨x, H1, I1, r1, q1⟩ => ?_))
  refine wpAny_bind (wpAny_holding (thn (hi pins s1 σ H1 _ I1 q1) fun iv s2 ⟨y, H2, I2, r2, q2⟩ => ?_))
  refine wpAny_bind (wpAny_standAt (wpAny_bind (wpAny_holding (thn (hs pins s2 σ H2 x y v ov iv u _ I2 r1 r2 r q2) fun _ s3 ⟨H3, I3, q3⟩ => ?_))))
  exact wpAny_release ⟨σ, H3, I3, q3⟩
def tAsg (te : TE) (g : TG) : TS := fun D σ H => te σ H fun x H1 => g x σ H1 D.nx
theorem ps_asg {tg e : Expr} {te : TE} {g : TG} (he : PE X e te) (hg : PG X tg g) (hs : swapsWithSole [tg] e pos.line X.env = pure false := by rfl) (hw : swappedStores [tg] e X.env = pure none := by rfl)
    (h1 : (assignEach [tg] X.env).map (·.2) = [assign tg X.env] := by rfl) : PS X (.Assign [tg] e pos) (tAsg te g) := by
  intro pins s σ H D I h
  refine wpAny_Assign_stores (thn (he pins s σ H _ I h) fun v s1 ⟨x, H1, I1, r1, q1⟩ => ?_) hs hw
  rw [h1]
  exact thn (hg pins s1 σ H1 x v _ I1 r1 q1) fun _ s2 q => q
theorem ps_set {i : Nat} {x : Str} {e : Expr} {te : TE} {pos' : Pos} (hN : X.N.Nodup) (hi : X.N[i]? = some x) (hx : Loc X.env.scope x) (he : PE X e te) (hs : swapsWith e (some (.Name x pos')) pos.line X.env = pure false := by rfl) (hf : X.fn x = true ∨ X.env.scope.names.lookup x = some .local := by first | exact .inl rfl | exact .inr rfl | assumption) :
    PS X (.Assign [.Name x pos'] e pos) (tAsg te (gName i)) := by
  intro pins s σ H D I h
  refine wpAny_Assign_Name (thn (he pins s σ H _ I h) fun v s1 ⟨y, H1, I1, r1, q1⟩ => ?_) hs
  exact store_ok I1 hN hi hx r1 (fun s2 I2 => ⟨_, H1, I2, q1⟩) hf
def tAugS (to ti te : TE) (tget : V → V → Hp → VK → Prop) (tip : TIp) (tset : TSet) : TS := fun D σ H => to σ H fun o H1 => ti σ H1 fun i H2 => tget o i H2 fun x H3 => te σ H3 fun y H4 => tip x y H4 fun z H5 => tset o i z H5 fun H6 => D.nx σ H6
def PGet (X : Cx) (t : V → V → Hp → VK → Prop) : Prop :=
  ∀ (pins : List (Addr × Obj)) (s : Shared) (σ : St) (H : Hp) (o i : V) (ov iv : Value) (Q : VK), Inv X pins σ H s → RelV o ov → RelV i iv → t o i H Q →
    wpAny (model X.prog X.w) X.A (getItem ov iv) (EP X pins σ Q) X.xe s
theorem ps_augS {o i e : Expr} {to ti te : TE} {tget : V → V → Hp → VK → Prop} {tip : TIp} {tset : TSet} {op : Operator} {tpos : Pos} (ho : PE X o to) (hi : PE X i ti) (hg : PGet X tget) (he : PE X e te) (hp : PIp X op tip) (hs : PSet X tset)
    (ha : ∀ ov iv new, augStore i ov iv new = (do holding [new, ov, iv] (setItem ov iv new); release [new, ov, iv] []; pure .next) := by intros; rfl) : PS X (.AugAssign (.Subscript o i tpos) op e pos) (tAugS to ti te tget tip tset) := by
  intro pins s σ H D I h
  refine wpAny_AugAssign_SubscriptAny (thn (ho pins s σ H _ I h) fun ov s1 ⟨x1, H1, I1, r1, q1⟩ => ?_) ha
  refine thn (hi pins s1 σ H1 _ I1 q1) fun iv s2 ⟨x2, H2, I2, r2, q2⟩ => ?_
  refine thn (hg pins s2 σ H2 x1 x2 ov iv _ I2 r1 r2 q2) fun old s3 ⟨x3, H3, I3, r3, q3⟩ => ?_
  refine thn (he pins s3 σ H3 _ I3 q3) fun v s4 ⟨x4, H4, I4, r4, q4⟩ => ?_
  refine thn (hp pins s4 σ H4 x3 x4 old v _ I4 r3 r4 q4) fun new s5 ⟨x5, H5, I5, r5, q5⟩ => ?_
  exact thn (hs pins s5 σ H5 x1 x2 x5 ov iv new _ I5 r1 r2 r5 q5) fun _ s6 ⟨H6, I6, q6⟩ => ⟨σ, H6, I6, q6⟩
def ipI (f : Int → Int → Int) : TIp := fun x y H Q => ∃ i j, x = .int i ∧ y = .int j ∧ Q (.int (f i j)) H
theorem ip_add : PIp X .Add (ipI fun i j => i + j) := by
  intro pins s σ H x y v u Q I r1 r2 h
  obtain ⟨i, j, e1, e2, q⟩ := h
  subst e1; subst e2
  obtain ⟨t, rfl⟩ := r1
  obtain ⟨t', rfl⟩ := r2
  exact iadd_int ⟨.int _, H, I.tok _, ⟨_, rfl⟩, q⟩
end
section
variable {X : Cx} {pos : Pos}
end
structure It where
  go : Nat → Hp → Prop
  yld : Nat → Hp → V → Hp → Prop
  stop : Nat → Hp → Prop
def FpOk (X : Cx) (pins : List (Addr × Obj)) (H : Hp) (b : Addr) : Prop :=
  H b = none ∧ b ≠ X.env.locals ∧ b ∉ X.fs ∧ (b ∈ X.ex ∨ X.s₀.heap.objs.size ≤ b) ∧ (∀ x c, X.env.cells.lookup x = some c → c ≠ b) ∧ ∀ p ∈ X.pn ++ pins, p.1 ≠ b
theorem Inv.fpOk {X : Cx} {pins : List (Addr × Obj)} {σ : St} {H H' : Hp} {s : Shared} {b : Addr} (I : Inv X pins σ H s) (hb : s.heap.objs.size ≤ b) (hn : H' b = none) : FpOk X pins H' b := by
  refine ⟨hn, Nat.ne_of_gt (Nat.lt_of_lt_of_le I.lt hb), I.nofs hb, .inr (Nat.le_trans I.sz hb), fun x c e z => ?_, fun p hp z => ?_⟩
  · obtain ⟨v, q⟩ := I.cell x c e
    exact absurd (Nat.lt_of_lt_of_le q.lt (by rw [z]; exact hb)) (Nat.lt_irrefl _)
  · exact absurd (Nat.lt_of_lt_of_le (Heap.lt_size (I.pin p hp).1) (by rw [z]; exact hb)) (Nat.lt_irrefl _)
structure Turn (P : Program) (w : World) (K : PySem.W.Frag) (tg : Expr) (J : It) (fp : List Addr) (it : Addr) (tn : Nat → Heap → Prop) : Prop where
  mem : it ∈ fp
  obj : ∀ i h, tn i h → ∀ b ∈ fp, ∃ o, h.get? b = some o ∧ ∀ v, o.data ≠ .cell v
  keep : ∀ i h h', tn i h → (∀ b ∈ fp, ∀ o, h.get? b = some o → h'.get? b = some o) → tn i h'
  item : ∀ (X : Cx), X.prog = P → X.w = w → X.K = K → X.calm = true → ∀ (i : Nat) (pins : List (Addr × Obj)) (s : Shared) (σ : St) (H : Hp) (E : Value → Shared → Prop), Inv X pins σ H s → (∀ b ∈ fp, FpOk X pins H b) → tn i s.heap → J.go i H →
    wpAny (model P w) X.A (pyNext (.ref it)) (fun r s1 => ∃ u, r = some u ∧
      wpAny (model P w) X.A (letOwnedTupleGo tg (.ref it) u) (fun _ s2 => ∃ x H', Inv X pins σ H' s2 ∧ RelV x u ∧ J.yld i H x H' ∧ tn (i + 1) s2.heap ∧ ∀ b ∈ fp, H' b = none) E s1) E s
  done : ∀ (X : Cx), X.prog = P → X.w = w → X.K = K → X.calm = true → ∀ (i : Nat) (pins : List (Addr × Obj)) (s : Shared) (σ : St) (H : Hp) (E : Value → Shared → Prop), Inv X pins σ H s → (∀ b ∈ fp, FpOk X pins H b) → tn i s.heap → J.stop i H →
    wpAny (model P w) X.A (pyNext (.ref it)) (fun r s1 => r = none ∧ Inv X pins σ H s1) E s
  self : ∀ (A : Around) (i : Nat) (s : Shared) (Q : Value → Shared → Prop) (E : Value → Shared → Prop), tn i s.heap → Q (.ref it) s → wpAny (model P w) A (pyIter (.ref it)) Q E s
abbrev TI := St → Hp → (It → Hp → Prop) → Prop
def PIE (X : Cx) (pins : List (Addr × Obj)) (σ : St) (tg : Expr) (R : It → Hp → Prop) (itv : Value) (s2 : Shared) : Prop :=
  ∃ (it : Addr) (fp : List Addr) (tn : Nat → Heap → Prop) (J : It) (H' : Hp), itv = .ref it ∧ Inv X pins σ H' s2 ∧ Turn X.prog X.w X.K tg J fp it tn ∧ tn 0 s2.heap ∧ (∀ b ∈ fp, FpOk X pins H' b) ∧ R J H'
def PI (X : Cx) (tg iter : Expr) (wi : TI) : Prop :=
  ∀ (pins : List (Addr × Obj)) (s : Shared) (σ : St) (H : Hp) (R : It → Hp → Prop), Inv X pins σ H s → wi σ H R →
    wpAny (model X.prog X.w) X.A (eval iter X.env) (fun v s1 => wpAny (model X.prog X.w) X.A (pyIter v) (PIE X pins σ tg R) X.xe s1) X.xe s
theorem go_of {M : Model} {A : Around} {E : Value → Shared → Prop} {s : Shared} {tg : Expr} {it : Addr} {u : Value} {o : Obj} {n : String} {vs : Array Value} {Q : Unit → Shared → Prop} (ho : s.heap.get? it = some o) (hc : o.cls = .type n) (hd : o.data = .fields vs)
    (hn : ["enumerate", "zip", "dict_itemiterator", "dict_reverseitemiterator", "odict_iterator", "itertools.zip_longest", "itertools.pairwise"].contains n = false) (hQ : Q () s) : wpAny M A (letOwnedTupleGo tg (.ref it) u) Q E s := by
  unfold letOwnedTupleGo
  cases tg <;> first
    | exact wpAny_pure hQ
    | (cases u <;> first
        | exact wpAny_pure hQ
        | (refine wpAny_bind (wpAny_load ho ?_)
           rw [hc, hd]
           show wpAny M A (if (["enumerate", "zip", "dict_itemiterator", "dict_reverseitemiterator", "odict_iterator", "itertools.zip_longest", "itertools.pairwise"].contains n && vs[0]? == some (rawInt _)) = true then _ else _) Q E s
           rw [if_neg (by intro h; rw [hn, Bool.false_and] at h; cases h)]
           exact wpAny_pure hQ))
def Itl (K : PySem.W.Frag) (a : Addr) : It :=
  ⟨fun i H => ∃ xs x, SqL K H a xs ∧ xs[i]? = some x, fun i H x H' => H' = H ∧ ∀ xs, SqL K H a xs → xs[i]? = some x, fun i H => ∃ xs, SqL K H a xs ∧ xs.length ≤ i⟩
def Itt (K : PySem.W.Frag) (a : Addr) : It :=
  ⟨fun i H => ∃ xs x, SqT K H a xs ∧ xs[i]? = some x, fun i H x H' => H' = H ∧ ∀ xs, SqT K H a xs → xs[i]? = some x, fun i H => ∃ xs, SqT K H a xs ∧ xs.length ≤ i⟩
def Itr (lo : Int) (n : Nat) : It := ⟨fun i _ => i < n, fun i H x H' => H' = H ∧ x = .int (lo + i), fun i _ => n ≤ i⟩
theorem turn_list {P : Program} {w : World} {K : PySem.W.Frag} {tg : Expr} (a it : Addr) : Turn P w K tg (Itl K a) [it] it (fun i h => h.IsListIter it a i) where
  mem := by simp
  obj := fun i h st b hb => by
    have e : b = it := by simpa using hb
    subst e
    obtain ⟨o, e, c, d⟩ := st
    exact ⟨o, e, fun v z => by rw [d] at z; cases z⟩
  keep := fun i h h' st k => st.at fun o e => k it (by simp) o e
  item := by
    intro X hP hw hK hc i pins s σ H E I hf st hg
    subst hP hw hK
    obtain ⟨xs, x, hq, hx⟩ := hg
    obtain ⟨its, rv, p, hz⟩ := I.list hq
    obtain ⟨u, hu, ru⟩ := rv.get hx
    obtain ⟨f0, f1, f2, f3, f4, f5⟩ := hf it (by simp)
    refine wpAny_pyNext_list_item st p.isList (x := u) (by simpa using hu) fun h' st' sb => ?_
    have I1 : Inv X pins σ H { s with heap := h' } := I.turned (t' := s.toks) (fun b o hb e => (sb.2 b hb).trans e) f0 f1 f3 f4 f5
    obtain ⟨o, e, c, d⟩ := id st'
    exact ⟨u, rfl, go_of (s := { s with heap := h' }) e c d (by decide) ⟨x, H, I1, ru, ⟨rfl, fun ys hy => by rw [I.list_inj hy hq]; exact hx⟩, st', fun b hb => (hf b hb).1⟩⟩
  done := by
    intro X hP hw hK hc i pins s σ H E I hf st hg
    subst hP hw hK
    obtain ⟨xs, hq, hx⟩ := hg
    obtain ⟨its, rv, p, hz⟩ := I.list hq
    obtain ⟨f0, f1, f2, f3, f4, f5⟩ := hf it (by simp)
    have hl := rv.length
    exact wpAny_pyNext_list_end (I.ok.hd hc) st p.isList (by simp; omega) fun h' eb => ⟨rfl, I.turned (t' := s.toks) (fun b o hb e => eb b o hb e) f0 f1 f3 f4 f5⟩
  self := fun _ _ _ _ _ st h => wpAny_pyIter_listiter st h
theorem turn_tuple {P : Program} {w : World} {K : PySem.W.Frag} {tg : Expr} (a it : Addr) : Turn P w K tg (Itt K a) [it] it (fun i h => h.IsTupleIter it a i) where
  mem := by simp
  obj := fun i h st b hb => by
    have e : b = it := by simpa using hb
    subst e
    obtain ⟨o, e, c, d⟩ := st
    exact ⟨o, e, fun v z => by rw [d] at z; cases z⟩
  keep := fun i h h' st k => st.at fun o e => k it (by simp) o e
  item := by
    intro X hP hw hK hc i pins s σ H E I hf st hg
    subst hP hw hK
    obtain ⟨xs, x, hq, hx⟩ := hg
    obtain ⟨its, rv, p, hz⟩ := I.tuple hq
    obtain ⟨u, hu, ru⟩ := rv.get hx
    obtain ⟨f0, f1, f2, f3, f4, f5⟩ := hf it (by simp)
    refine wpAny_pyNext_tuple_item st (show s.heap.IsTuple a its.toArray from p) (x := u) (by simpa using hu) fun h' st' sb => ?_
    have I1 : Inv X pins σ H { s with heap := h' } := I.turned (t' := s.toks) (fun b o hb e => (sb.2 b hb).trans e) f0 f1 f3 f4 f5
    obtain ⟨o, e, c, d⟩ := id st'
    exact ⟨u, rfl, go_of (s := { s with heap := h' }) e c d (by decide) ⟨x, H, I1, ru, ⟨rfl, fun ys hy => by rw [I.tuple_inj hy hq]; exact hx⟩, st', fun b hb => (hf b hb).1⟩⟩
  done := by
    intro X hP hw hK hc i pins s σ H E I hf st hg
    subst hP hw hK
    obtain ⟨xs, hq, hx⟩ := hg
    obtain ⟨its, rv, p, hz⟩ := I.tuple hq
    obtain ⟨f0, f1, f2, f3, f4, f5⟩ := hf it (by simp)
    have hl := rv.length
    exact wpAny_pyNext_tuple_end (I.ok.hd hc) st (show s.heap.IsTuple a its.toArray from p) (by simp; omega) fun h' eb => ⟨rfl, I.turned (t' := s.toks) (fun b o hb e => eb b o hb e) f0 f1 f3 f4 f5⟩
  self := fun _ _ _ _ _ st h => wpAny_pyIter_tupleiter st h
theorem turn_range {P : Program} {w : World} {K : PySem.W.Frag} {tg : Expr} (it : Addr) (lo : Int) (n : Nat) : Turn P w K tg (Itr lo n) [it] it (fun i h => IsRangeIter h it (lo + (i : Nat) * 1) ((n : Int) - (i : Nat)) 1) where
  mem := by simp
  obj := fun i h st b hb => by
    have e : b = it := by simpa using hb
    subst e
    exact ⟨_, st, fun v z => by
      have z' : Data.fields _ = Data.cell v := z
      cases z'⟩
  keep := fun i h h' st k => k it (by simp) _ st
  item := by
    intro X hP hw hK hc i pins s σ H E I hf st hg
    subst hP hw hK
    obtain ⟨f0, f1, f2, f3, f4, f5⟩ := hf it (by simp)
    have W := Walks.range (prog := X.prog) (w := X.w) (I.ok.hd hc) it lo 1 n
    refine W.item i s _ _ hg st fun v h' tk hv st' kk => ?_
    obtain ⟨t, rfl⟩ := hv
    have I1 : Inv X pins σ H { s with heap := h', toks := tk } := I.turned (fun b o hb e => kk b o (by simpa using hb) e) f0 f1 f3 f4 f5
    refine ⟨_, rfl, go_of (s := { s with heap := h', toks := tk }) (n := "range_iterator") st' rfl rfl (by decide) ⟨.int (lo + i), H, I1, ⟨t, ?_⟩, ⟨rfl, rfl⟩, st', fun b hb => (hf b hb).1⟩⟩
    rw [Int.mul_one]
  done := by
    intro X hP hw hK hc i pins s σ H E I hf st hg
    subst hP hw hK
    obtain ⟨f0, f1, f2, f3, f4, f5⟩ := hf it (by simp)
    exact wpAny_pyNext_range_end (I.ok.hd hc) st (by have : n ≤ i := hg; omega) fun h' eb => ⟨rfl, I.turned (t' := s.toks) (fun b o hb e => eb b o hb e) f0 f1 f3 f4 f5⟩
  self := fun _ _ _ _ _ st h => wpAny_pyIter_rangeiter st h
end L2
namespace L2
open PySem PySem.Spec PyProof.Rows
section
variable {X : Cx} {tg : Expr}
def iList (K : PySem.W.Frag) (tl : TE) : TI := fun σ H R => tl σ H fun x H1 => ∃ a, x = .ref a ∧ (∃ xs, SqL K H1 a xs) ∧ R (Itl K a) H1
def iTup (K : PySem.W.Frag) (tl : TE) : TI := fun σ H R => tl σ H fun x H1 => ∃ a, x = .ref a ∧ (∃ xs, SqT K H1 a xs) ∧ R (Itt K a) H1
theorem pi_list {l : Expr} {tl : TE} (hl : PE X l tl) : PI X tg l (iList X.K tl) := by
  intro pins s σ H R I h
  refine thn (hl pins s σ H _ I h) fun v s1 ⟨x, H1, I1, r1, q1⟩ => ?_
  obtain ⟨a, e, ⟨xs, hq⟩, q⟩ := q1
  subst e
  cases r1
  obtain ⟨its, rv, p, hz⟩ := I1.list hq
  refine wpAny_pyIter_list p.isList ?_
  refine ⟨s1.heap.objs.size, [s1.heap.objs.size], _, _, H1, rfl, I1.kept (t' := s1.toks) fun b o e => Heap.get?_push_of_some _ e, turn_list a _, ⟨_, Heap.get?_push_size _ rfl, rfl, rfl⟩, fun b hb => ?_, q⟩
  have e : b = s1.heap.objs.size := by simpa using hb
  subst e
  exact I1.fpOk (Nat.le_refl _) (I1.hok.fresh (Nat.le_refl _))
theorem pi_tup {l : Expr} {tl : TE} (hl : PE X l tl) : PI X tg l (iTup X.K tl) := by
  intro pins s σ H R I h
  refine thn (hl pins s σ H _ I h) fun v s1 ⟨x, H1, I1, r1, q1⟩ => ?_
  obtain ⟨a, e, ⟨xs, hq⟩, q⟩ := q1
  subst e
  cases r1
  obtain ⟨its, rv, p, hz⟩ := I1.tuple hq
  refine wpAny_pyIter_tuple (show s1.heap.IsTuple a its.toArray from p) ?_
  refine ⟨s1.heap.objs.size, [s1.heap.objs.size], _, _, H1, rfl, I1.kept (t' := s1.toks) fun b o e => Heap.get?_push_of_some _ e, turn_tuple a _, ⟨_, Heap.get?_push_size _ rfl, rfl, rfl⟩, fun b hb => ?_, q⟩
  have e : b = s1.heap.objs.size := by simpa using hb
  subst e
  exact I1.fpOk (Nat.le_refl _) (I1.hok.fresh (Nat.le_refl _))
theorem range_it {pins : List (Addr × Obj)} {σ : St} {H : Hp} {s : Shared} {R : It → Hp → Prop} {E : Value → Shared → Prop} {lo hi : Int} {t u v : Tok} {tk : Nat} (I : Inv X pins σ H s) (h1 : -(2 ^ 62) ≤ lo) (h2 : lo < 2 ^ 62) (h3 : -(2 ^ 62) ≤ hi) (h4 : hi < 2 ^ 62)
    (q : R (Itr lo (hi - lo).toNat) H) : wpAny (model X.prog X.w) X.A (pyIter (.ref s.heap.objs.size)) (PIE X pins σ tg R) E { s with heap := s.heap.push { cls := .type "range", data := .fields #[.int lo t, .int hi u, .int 1 v] }, toks := tk } := by
  refine wpAny_pyIter_range (IsRange.new ..) (small_one h1 h2 h3 h4) ?_
  have I1 : Inv X pins σ H { s with heap := s.heap.push { cls := .type "range", data := .fields #[.int lo t, .int hi u, .int 1 v] }, toks := tk } := I.kept fun b o e => Heap.get?_push_of_some _ e
  refine ⟨(s.heap.push { cls := .type "range", data := .fields #[.int lo t, .int hi u, .int 1 v] }).objs.size, [(s.heap.push { cls := .type "range", data := .fields #[.int lo t, .int hi u, .int 1 v] }).objs.size], _, _, H, rfl,
    I1.kept (t' := tk) fun b o e => Heap.get?_push_of_some _ e, turn_range _ lo (hi - lo).toNat, ?_, fun b hb => ?_, q⟩
  · have e1 : lo + ((0 : Nat) : Int) * 1 = lo := by simp
    have e2 : (((hi - lo).toNat : Nat) : Int) - ((0 : Nat) : Int) = Builtin.Range.rangeSize lo hi 1 := by rw [rangeSize_one]; split <;> omega
    show IsRangeIter _ _ (lo + ((0 : Nat) : Int) * 1) ((((hi - lo).toNat : Nat) : Int) - ((0 : Nat) : Int)) 1
    rw [e1, e2]
    exact Heap.get?_push_size _ rfl
  · have e : b = (s.heap.push { cls := .type "range", data := .fields #[.int lo t, .int hi u, .int 1 v] }).objs.size := by simpa using hb
    subst e
    exact I1.fpOk (Nat.le_refl _) (I1.hok.fresh (Nat.le_refl _))
def iRng1 (ta : TA) : TI := fun σ H R => ta σ H fun vs H1 => ∃ j : Int, vs = [.int j] ∧ -(2 ^ 62) ≤ j ∧ j < 2 ^ 62 ∧ R (Itr 0 j.toNat) H1
def iRng2 (ta : TA) : TI := fun σ H R => ta σ H fun vs H1 => ∃ i j : Int, vs = [.int i, .int j] ∧ (-(2 ^ 62) ≤ i ∧ i < 2 ^ 62 ∧ -(2 ^ 62) ≤ j ∧ j < 2 ^ 62) ∧ R (Itr i (j - i).toNat) H1
theorem pi_range1 {a : Expr} {ta : TA} {p pos : Pos} (hg : Gl X "range") (hm : X.mg "range" = none) (ha : PA X [a] ta) (hs : starEach [a] X.env = [(false, eval a X.env)] := by rfl) : PI X tg (.Call (.Name "range" p) [a] [] pos) (iRng1 ta) := by
  intro pins s σ H R I h
  refine Call_ (ld_blt I hg hm boot_range (PyProof.Rows.callWith_type1 (thn (ha pos pins s σ H _ I h) fun us s1 ⟨vs, H1, I1, r1, q1⟩ => ?_) hs rfl))
  obtain ⟨j, e, q1, q2, q⟩ := q1
  subst e
  cases r1 with
  | cons r rr =>
    cases rr
    obtain ⟨t, rfl⟩ := r
    exact call_range_1 (range_it I1 (by omega) (by omega) q1 q2 (by simpa using q))
theorem pi_range2 {a b : Expr} {ta : TA} {p pos : Pos} (hg : Gl X "range") (hm : X.mg "range" = none) (ha : PA X [a, b] ta) (hs : starEach [a, b] X.env = [(false, eval a X.env), (false, eval b X.env)] := by rfl) (hs2 : starEach [b] X.env = [(false, eval b X.env)] := by rfl) :
    PI X tg (.Call (.Name "range" p) [a, b] [] pos) (iRng2 ta) := by
  intro pins s σ H R I h
  refine Call_ (ld_blt I hg hm boot_range (PyProof.Rows.callWith_type1 (thn (ha pos pins s σ H _ I h) fun us s1 ⟨vs, H1, I1, r1, q1⟩ => ?_) (by rw [hs, hs2]) (by rw [hs2]; rfl)))
  obtain ⟨i, j, e, ⟨q1, q2, q3, q4⟩, q⟩ := q1
  subst e
  cases r1 with
  | cons r rr =>
    cases rr with
    | cons r' rr =>
      cases rr
      obtain ⟨t, rfl⟩ := r
      obtain ⟨t', rfl⟩ := r'
      exact call_range_2 (range_it I1 q1 q2 q3 q4 q)
def tFor (wi : TI) (g : TG) (tb : TS) : TS := fun D σ H => wi σ H fun J H1 => ∃ W : Nat → Nat → St → Hp → Prop, (∃ m, W 0 m σ H1) ∧ ∀ i m σ H, W i m σ H →
  (J.stop i H ∧ D.nx σ H) ∨ (J.go i H ∧ ∃ N : St → Hp → Prop, (∀ σ' H', N σ' H' → ∃ m', m' < m ∧ W (i + 1) m' σ' H') ∧ ∀ x H', J.yld i H x H' → g x σ H' fun σ2 H2 => tb { D with nx := N, ct := N, bk := D.nx } σ2 H2)
def pinsAt (fp : List Addr) (h : Heap) : List (Addr × Obj) := fp.filterMap fun b => (h.get? b).map fun o => (b, o)
theorem mem_pinsAt {fp : List Addr} {h : Heap} {b : Addr} {o : Obj} (hb : b ∈ fp) (e : h.get? b = some o) : (b, o) ∈ pinsAt fp h := List.mem_filterMap.mpr ⟨b, hb, by rw [e]; rfl⟩
theorem of_pinsAt {fp : List Addr} {h : Heap} {p : Addr × Obj} (hp : p ∈ pinsAt fp h) : p.1 ∈ fp ∧ h.get? p.1 = some p.2 := by
  obtain ⟨b, hb, e⟩ := List.mem_filterMap.mp hp
  cases q : h.get? b with
  | none => rw [q] at e; cases e
  | some o =>
    rw [q] at e
    have e' : (b, o) = p := Option.some.inj e
    subst e'
    exact ⟨hb, q⟩
theorem Inv.pinned {pins : List (Addr × Obj)} {σ : St} {H : Hp} {s : Shared} {fp : List Addr} (I : Inv X pins σ H s) (hf : ∀ b ∈ fp, FpOk X pins H b) (ho : ∀ b ∈ fp, ∃ o, s.heap.get? b = some o ∧ ∀ v, o.data ≠ .cell v) : Inv X (pins ++ pinsAt fp s.heap) σ H s :=
  I.pins_of fun p hp => (List.mem_append.mp hp).elim (fun z => I.pin p (List.mem_append_right _ z)) fun z => by
    obtain ⟨hb, e⟩ := of_pinsAt z
    obtain ⟨f0, f1, f2, _⟩ := hf p.1 hb
    obtain ⟨o, e', d⟩ := ho p.1 hb
    rw [e] at e'; cases e'
    exact ⟨e, f0, f1, f2, d⟩
theorem Inv.unpinned {pins pl : List (Addr × Obj)} {σ : St} {H : Hp} {s : Shared} (I : Inv X (pins ++ pl) σ H s) : Inv X pins σ H s := I.pins_of fun p hp => I.pin p (List.mem_append_right _ (List.mem_append_left _ hp))
theorem ps_for {iter : Expr} {body : List Stmt} {wi : TI} {g : TG} {tb : TS} {pos : Pos} (hp : PassesOwn (model X.prog X.w) X.A X.env X.xe) (hc : X.calm = true) (hi : PI X tg iter wi) (hg : PG X tg g) (hb : PSs X body tb)
    (hs : ∀ x, foldedSetIterable iter X.env x = pure x := by intro _; rfl) : PS X (.For tg iter body [] pos) (tFor wi g tb) := by
  intro pins s σ H D I h
  refine wpAny_For (thn (hi pins s σ H _ I h) fun v s1 h1 => thn h1 fun itv s2 h2 => ?_) hs
  obtain ⟨it, fp, tn, J, H2, e, I2, T, st2, f2, W, ⟨m0, w0⟩, turn⟩ := h2
  subst e
  -- what stays true of the iterator's objects through the loop
  have stat : ∀ {H' : Hp}, (∀ b ∈ fp, H' b = none) → ∀ b ∈ fp, FpOk X pins H' b := fun hn b hb => ⟨hn b hb, (f2 b hb).2⟩
  refine codeAny_forLoop_any (fun n s' => ∃ i σ' H', Inv X pins σ' H' s' ∧ tn i s'.heap ∧ (∀ b ∈ fp, H' b = none) ∧ W i n σ' H') ?_ m0 ⟨0, σ, H2, I2, st2, fun b hb => (f2 b hb).1, w0⟩
  rintro n s3 ⟨i, σ3, H3, I3, st3, fr3, w3⟩
  rcases turn i n σ3 H3 w3 with ⟨stop, qn⟩ | ⟨go, N, hN, step⟩
  · refine wpAny_passesOwn hp (thn (T.done X rfl rfl rfl hc i pins s3 σ3 H3 X.xe I3 (stat fr3) st3 stop) fun r s4 ⟨hr, I4⟩ => ?_)
    subst hr
    exact wpAny_execs_nil ⟨σ3, H3, I4, qn⟩
  · refine wpAny_passesOwn hp (thn (T.item X rfl rfl rfl hc i pins s3 σ3 H3 X.xe I3 (stat fr3) st3 go) fun r s4 ⟨u, hr, h4⟩ => ?_)
    subst hr
    refine wpAny_passesOwn hp (thn h4 fun _ s5 ⟨x, H5, I5, r5, y5, st5, fr5⟩ => ?_)
    have I5' := I5.pinned (stat fr5) (T.obj _ _ st5)
    refine wpAny_passesOwn hp (thn (hg _ s5 σ3 H5 x u _ I5' r5 (step x H5 y5)) fun _ s6 ⟨σ6, H6, I6, q6⟩ => ?_)
    refine wpAny_passesOwn hp (thn (hb _ s6 σ6 H6 _ I6 q6) fun f s7 q7 => ?_)
    have again : ∀ {σ7 : St} {H7 : Hp}, Inv X (pins ++ pinsAt fp s5.heap) σ7 H7 s7 → N σ7 H7 → ∃ m, m < n ∧ ∃ i σ' H', Inv X pins σ' H' s7 ∧ tn i s7.heap ∧ (∀ b ∈ fp, H' b = none) ∧ W i m σ' H' := fun {σ7 H7} I7 n7 => by
      obtain ⟨m', hm, w7⟩ := hN σ7 H7 n7
      refine ⟨m', hm, i + 1, σ7, H7, I7.unpinned, T.keep _ _ _ st5 fun b hb o e => (I7.pin (b, o) (List.mem_append_right _ (List.mem_append_right _ (mem_pinsAt hb e)))).1, fun b hb => ?_, w7⟩
      obtain ⟨o, e, d⟩ := T.obj _ _ st5 b hb
      exact (I7.pin (b, o) (List.mem_append_right _ (List.mem_append_right _ (mem_pinsAt hb e)))).2.1
    cases f with
    | next => obtain ⟨σ7, H7, I7, n7⟩ := q7; exact again I7 n7
    | cont => obtain ⟨σ7, H7, I7, n7⟩ := q7; exact again I7 n7
    | brk => obtain ⟨σ7, H7, I7, q7⟩ := q7; exact ⟨σ7, H7, I7.unpinned, q7⟩
    | ret v => obtain ⟨x7, σ7, H7, I7, r7, q7⟩ := q7; exact ⟨x7, σ7, H7, I7.unpinned, r7, q7⟩
end
theorem for_list {K : PySem.W.Frag} {a : Addr} {xs : List V} {g : TG} {tb : TS} {D : Ends} {σ : St} {H : Hp} (Pv : Nat → St → Hp → Prop) (h0 : Pv 0 σ H) (hl : ∀ i σ H, i ≤ xs.length → Pv i σ H → SqL K H a xs)
    (hs : ∀ i x σ H, xs[i]? = some x → Pv i σ H → g x σ H fun σ2 H2 => tb { D with nx := Pv (i + 1), ct := Pv (i + 1), bk := D.nx } σ2 H2) (hd : ∀ σ H, Pv xs.length σ H → D.nx σ H) :
    ∃ W : Nat → Nat → St → Hp → Prop, (∃ m, W 0 m σ H) ∧ ∀ i m σ H, W i m σ H →
      ((Itl K a).stop i H ∧ D.nx σ H) ∨ ((Itl K a).go i H ∧ ∃ N : St → Hp → Prop, (∀ σ' H', N σ' H' → ∃ m', m' < m ∧ W (i + 1) m' σ' H') ∧ ∀ x H', (Itl K a).yld i H x H' → g x σ H' fun σ2 H2 => tb { D with nx := N, ct := N, bk := D.nx } σ2 H2) := by
  refine ⟨fun i m σ H => m = xs.length - i ∧ i ≤ xs.length ∧ Pv i σ H, ⟨xs.length, by simp, Nat.zero_le _, h0⟩, ?_⟩
  rintro i m σ H ⟨rfl, hi, p⟩
  have q := hl i σ H hi p
  by_cases hlt : i < xs.length
  · refine .inr ⟨⟨xs, xs[i], q, by simp [hlt]⟩, Pv (i + 1), fun σ' H' p' => ⟨xs.length - (i + 1), by omega, rfl, hlt, p'⟩, fun x H' y => ?_⟩
    obtain ⟨e, y⟩ := y
    subst e
    exact hs i x σ _ (y xs q) p
  · have e : i = xs.length := by omega
    subst e
    exact .inl ⟨⟨xs, q, Nat.le_refl _⟩, hd σ H p⟩
theorem for_range {lo : Int} {n : Nat} {g : TG} {tb : TS} {D : Ends} {σ : St} {H : Hp} (Pv : Nat → St → Hp → Prop) (h0 : Pv 0 σ H)
    (hs : ∀ i σ H, i < n → Pv i σ H → g (.int (lo + i)) σ H fun σ2 H2 => tb { D with nx := Pv (i + 1), ct := Pv (i + 1), bk := D.nx } σ2 H2) (hd : ∀ σ H, Pv n σ H → D.nx σ H) :
    ∃ W : Nat → Nat → St → Hp → Prop, (∃ m, W 0 m σ H) ∧ ∀ i m σ H, W i m σ H →
      ((Itr lo n).stop i H ∧ D.nx σ H) ∨ ((Itr lo n).go i H ∧ ∃ N : St → Hp → Prop, (∀ σ' H', N σ' H' → ∃ m', m' < m ∧ W (i + 1) m' σ' H') ∧ ∀ x H', (Itr lo n).yld i H x H' → g x σ H' fun σ2 H2 => tb { D with nx := N, ct := N, bk := D.nx } σ2 H2) := by
  refine ⟨fun i m σ H => m = n - i ∧ i ≤ n ∧ Pv i σ H, ⟨n, by simp, Nat.zero_le _, h0⟩, ?_⟩
  rintro i m σ H ⟨rfl, hi, p⟩
  by_cases hlt : i < n
  · refine .inr ⟨hlt, Pv (i + 1), fun σ' H' p' => ⟨n - (i + 1), by omega, rfl, hlt, p'⟩, fun x H' y => ?_⟩
    obtain ⟨e, y⟩ := y
    subst e y
    exact hs i σ _ hlt p
  · have e : i = n := by omega
    subst e
    exact .inl ⟨Nat.le_refl _, hd σ H p⟩
end L2
namespace L2
open PySem PySem.Spec PyProof.Rows
abbrev R2 := V → V → Hp → VK → Prop
def OpR (X : Cx) (f : Value → Value → Sem Value) (r : R2) : Prop :=
  ∀ (pins : List (Addr × Obj)) (s : Shared) (σ : St) (H : Hp) (x y : V) (v u : Value) (Q : VK), Inv X pins σ H s → RelV x v → RelV y u → r x y H Q →
    wpAny (model X.prog X.w) X.A (f v u) (EP X pins σ Q) X.xe s
def UnR (X : Cx) (f : Value → Sem Value) (r : V → Hp → VK → Prop) : Prop :=
  ∀ (pins : List (Addr × Obj)) (s : Shared) (σ : St) (H : Hp) (x : V) (v : Value) (Q : VK), Inv X pins σ H s → RelV x v → r x H Q →
    wpAny (model X.prog X.w) X.A (f v) (EP X pins σ Q) X.xe s
def CallR (X : Cx) (f : Value) (r : List V → Hp → VK → Prop) : Prop :=
  ∀ (pins : List (Addr × Obj)) (s : Shared) (σ : St) (H : Hp) (xs : List V) (us : List Value) (Q : VK), Inv X pins σ H s → Vals xs us → r xs H Q →
    wpAny (model X.prog X.w) X.A (call f us) (EP X pins σ Q) X.xe s
def tOp (r : R2) (ta tb : TE) : TE := fun σ H Q => ta σ H fun x H1 => tb σ H1 fun y H2 => r x y H2 Q
def tUn (r : V → Hp → VK → Prop) (ta : TE) : TE := fun σ H Q => ta σ H fun x H1 => r x H1 Q
def rI (C : Int → Int → Prop) (g : Int → Int → V) : R2 := fun x y H Q => ∃ i j, x = .int i ∧ y = .int j ∧ C i j ∧ Q (g i j) H
def rI0 (g : Int → Int → V) : R2 := fun x y H Q => ∃ i j, x = .int i ∧ y = .int j ∧ Q (g i j) H
def rU (g : Int → V) : V → Hp → VK → Prop := fun x H Q => ∃ i, x = .int i ∧ Q (g i) H
section
variable {X : Cx} {a b c : Expr} {ta tb tc : TE} {pos : Pos}
theorem binT (ha : PE X a ta) (hb : PE X b tb) {pins : List (Addr × Obj)} {s : Shared} {σ : St} {H : Hp} {R : V → V → Hp → Prop} (I : Inv X pins σ H s)
    (h : ta σ H fun x H1 => tb σ H1 fun y H2 => R x y H2) {Q : Value → Shared → Prop} {f : Value → Value → Sem Value}
    (hf : ∀ v u s2 x y H2, Inv X pins σ H2 s2 → RelV x v → RelV y u → R x y H2 → wpAny (model X.prog X.w) X.A (f v u) Q X.xe s2) :
    wpAny (model X.prog X.w) X.A (eval a X.env) (fun v s₁ => wpAny (model X.prog X.w) X.A (eval b X.env) (fun u s₂ => wpAny (model X.prog X.w) X.A (f v u) Q X.xe s₂) X.xe s₁) X.xe s := by
  refine thn (ha pins s σ H _ I h) fun v s1 ⟨x, H1, I1, r1, q1⟩ => ?_
  refine thn (hb pins s1 σ H1 _ I1 q1) fun u s2 ⟨y, H2, I2, r2, q2⟩ => ?_
  exact hf v u s2 x y H2 I2 r1 r2 q2
theorem pe_op {op : Operator} {r : R2} (ho : OpR X (binaryOp op) r) (ha : PE X a ta) (hb : PE X b tb) : PE X (.BinOp a op b pos) (tOp r ta tb) := by
  intro pins s σ H Q I h
  exact wpAny_BinOp (binT ha hb I h fun v u s2 x y H2 I2 rx ry q => ho pins s2 σ H2 x y v u Q I2 rx ry q)
theorem pe_un {op : UnaryOp} {r : V → Hp → VK → Prop} (ho : UnR X (unaryOp op) r) (ha : PE X a ta) : PE X (.UnaryOp op a pos) (tUn r ta) := by
  intro pins s σ H Q I h
  exact UnaryOp_ (thn (ha pins s σ H _ I h) fun v s1 ⟨x, H1, I1, r1, q1⟩ => ho pins s1 σ H1 x v Q I1 r1 q1)
theorem opI {f : Value → Value → Sem Value} {C : Int → Int → Prop} {g : Int → Int → Int}
    (rule : ∀ (i j : Int) (t u : Tok) (s : Shared) (Q : Value → Shared → Prop) (E : Value → Shared → Prop), C i j → Q (.int (g i j) s.toks) { s with toks := s.toks + 1 } → wpAny (model X.prog X.w) X.A (f (.int i t) (.int j u)) Q E s) :
    OpR X f (rI C fun i j => .int (g i j)) := by
  intro pins s σ H x y v u Q I rx ry h
  obtain ⟨i, j, rfl, rfl, hc, q⟩ := h
  obtain ⟨t, rfl⟩ := rx
  obtain ⟨t', rfl⟩ := ry
  exact rule i j t t' s _ _ hc ⟨.int (g i j), H, I.tok _, ⟨_, rfl⟩, q⟩
theorem opI0 {f : Value → Value → Sem Value} {g : Int → Int → Int}
    (rule : ∀ (i j : Int) (t u : Tok) (s : Shared) (Q : Value → Shared → Prop) (E : Value → Shared → Prop), Q (.int (g i j) s.toks) { s with toks := s.toks + 1 } → wpAny (model X.prog X.w) X.A (f (.int i t) (.int j u)) Q E s) :
    OpR X f (rI0 fun i j => .int (g i j)) := by
  intro pins s σ H x y v u Q I rx ry h
  obtain ⟨i, j, rfl, rfl, q⟩ := h
  obtain ⟨t, rfl⟩ := rx
  obtain ⟨t', rfl⟩ := ry
  exact rule i j t t' s _ _ ⟨.int (g i j), H, I.tok _, ⟨_, rfl⟩, q⟩
theorem opB0 {f : Value → Value → Sem Value} {g : Int → Int → Bool}
    (rule : ∀ (i j : Int) (t u : Tok) (s : Shared) (Q : Value → Shared → Prop) (E : Value → Shared → Prop), Q (.bool (g i j)) s → wpAny (model X.prog X.w) X.A (f (.int i t) (.int j u)) Q E s) :
    OpR X f (rI0 fun i j => .bl (g i j)) := by
  intro pins s σ H x y v u Q I rx ry h
  obtain ⟨i, j, rfl, rfl, q⟩ := h
  obtain ⟨t, rfl⟩ := rx
  obtain ⟨t', rfl⟩ := ry
  exact rule i j t t' s _ _ ⟨.bl (g i j), H, I, rfl, q⟩
def CPow (i j : Int) : Prop := 0 ≤ j ∧ j ≤ 1000000 ∧ i.natAbs < 2 ^ 64
def CMul (i j : Int) : Prop := (-(2 ^ 64) < i ∧ i < 2 ^ 64) ∨ (-(2 ^ 64) < j ∧ j < 2 ^ 64)
theorem CMul.ok {i j : Int} (h : CMul i j) : IntMulOk i j := by
  rcases h with ⟨h1, h2⟩ | ⟨h1, h2⟩
  · exact .of_left (intBits_le_64 h1 h2)
  · exact .of_right (intBits_le_64 h1 h2)
theorem op_add : OpR X (binaryOp .Add) (rI0 fun i j => .int (i + j)) := opI0 fun _ _ _ _ _ _ _ q => add_int q
theorem op_sub : OpR X (binaryOp .Sub) (rI0 fun i j => .int (i - j)) := opI0 fun _ _ _ _ _ _ _ q => sub_int q
theorem op_mul : OpR X (binaryOp .Mult) (rI CMul fun i j => .int (i * j)) := opI fun _ _ _ _ _ _ _ hc q => mul_int q hc.ok
theorem op_mod : OpR X (binaryOp .Mod) (rI (fun _ j => 0 < j) fun i j => .int (i % j)) := opI fun i j _ _ _ _ _ hc q => by
  have h1 : (0 : Int) < j := hc
  exact mod_int' (by omega) (by rw [Int.fmod_eq_emod_of_nonneg i (by omega)]; exact q)
theorem op_pow : OpR X (binaryOp .Pow) (rI CPow fun i j => .int (i ^ j.toNat)) := opI fun _ _ _ _ _ _ _ hc q => pow_int_small hc.1 hc.2.1 hc.2.2 q
theorem op_xor : OpR X (binaryOp .BitXor) (rI0 fun i j => .int (Builtin.bitXor i j)) := opI0 fun _ _ _ _ _ _ _ q => xor_int q
theorem unI {f : Value → Sem Value} {g : Int → Int}
    (rule : ∀ (i : Int) (t : Tok) (s : Shared) (Q : Value → Shared → Prop) (E : Value → Shared → Prop), Q (.int (g i) s.toks) { s with toks := s.toks + 1 } → wpAny (model X.prog X.w) X.A (f (.int i t)) Q E s) :
    UnR X f (rU fun i => .int (g i)) := by
  intro pins s σ H x v Q I rx h
  obtain ⟨i, rfl, q⟩ := h
  obtain ⟨t, rfl⟩ := rx
  exact rule i t s _ _ ⟨.int (g i), H, I.tok _, ⟨_, rfl⟩, q⟩
theorem un_neg : UnR X (unaryOp .USub) (rU fun i => .int (-i)) := unI fun _ _ _ _ _ q => neg_int q
end
def scal : V → V → Bool
  | .non, .non => true | .non, .int _ => true | .int _, .non => true | .non, .bl _ => true | .bl _, .non => true | .non, .str _ => true | .str _, .non => true
  | .int _, .int _ => true | .bl _, .bl _ => true | .str _, .str _ => true | .byt _, .byt _ => true
  | .int _, .str _ => true | .str _, .int _ => true | .bl _, .str _ => true | .str _, .bl _ => true
  | _, _ => false
def rEq : R2 := fun x y H Q => scal x y = true ∧ Q (.bl (decide (x = y))) H
def rNe : R2 := fun x y H Q => scal x y = true ∧ Q (.bl (!decide (x = y))) H
theorem dec_int {i j : Int} : decide (V.int i = V.int j) = (i == j) := by
  rw [Bool.eq_iff_iff]
  simp
theorem dec_bl {i j : Bool} : decide (V.bl i = V.bl j) = (i == j) := by
  rw [Bool.eq_iff_iff]
  simp
theorem dec_str {i j : Str} : decide (V.str i = V.str j) = (i == j) := by
  rw [Bool.eq_iff_iff]
  simp
theorem dec_byt {i j : Array UInt8} : decide (V.byt i = V.byt j) = (i.toList == j.toList) := by
  rw [Bool.eq_iff_iff]
  cases i
  cases j
  simp
section
variable {X : Cx} {a b c : Expr} {ta tb tc : TE} {pos : Pos}
theorem fin_bl {pins : List (Addr × Obj)} {σ : St} {H : Hp} {s : Shared} {Q : VK} {k k' : Bool} (I : Inv X pins σ H s) (q : Q (.bl k) H) (e : k = k') : EP X pins σ Q (.bool k') s := by
  subst e
  exact ⟨.bl k, H, I, rfl, q⟩
theorem op_eq : OpR X (compareOp .Eq) rEq := by
  intro pins s σ H x y v u Q I rx ry h
  obtain ⟨hs, q⟩ := h
  cases x with
  | non =>
    cases rx
    cases y with
    | non => cases ry; exact PySem.EqNone.eq_none_none (fin_bl I q (by simp))
    | bl j => cases ry; exact PySem.EqNone.eq_none_bool (fin_bl I q (by simp))
    | int j => obtain ⟨t', rfl⟩ := ry; exact PySem.EqNone.eq_none_int (fin_bl I q (by simp))
    | str j => obtain ⟨t', rfl⟩ := ry; exact PySem.EqNone.eq_none_str (fin_bl I q (by simp))
    | _ => exact absurd (show false = true from hs) Bool.false_ne_true
  | bl i =>
    cases rx
    cases y with
    | non => cases ry; exact PySem.EqNone.eq_bool_none (fin_bl I q (by simp))
    | bl j => cases ry; exact eq_bool (fin_bl I q dec_bl)
    | str j => obtain ⟨t', rfl⟩ := ry; exact PySem.EqMixed.eq_bool_str (fin_bl I q (by simp))
    | _ => exact absurd (show false = true from hs) Bool.false_ne_true
  | int i =>
    obtain ⟨t, rfl⟩ := rx
    cases y with
    | non => cases ry; exact PySem.EqNone.eq_int_none (fin_bl I q (by simp))
    | int j => obtain ⟨t', rfl⟩ := ry; exact eq_int (fin_bl I q dec_int)
    | str j => obtain ⟨t', rfl⟩ := ry; exact PySem.EqMixed.eq_int_str (fin_bl I q (by simp))
    | _ => exact absurd (show false = true from hs) Bool.false_ne_true
  | str i =>
    obtain ⟨t, rfl⟩ := rx
    cases y with
    | non => cases ry; exact PySem.EqNone.eq_str_none (fin_bl I q (by simp))
    | bl j => cases ry; exact PySem.EqMixed.eq_str_bool (fin_bl I q (by simp))
    | int j => obtain ⟨t', rfl⟩ := ry; exact PySem.EqMixed.eq_str_int (fin_bl I q (by simp))
    | str j => obtain ⟨t', rfl⟩ := ry; exact eq_str (fin_bl I q dec_str)
    | _ => exact absurd (show false = true from hs) Bool.false_ne_true
  | byt i =>
    obtain ⟨t, rfl⟩ := rx
    cases y with
    | byt j => obtain ⟨t', rfl⟩ := ry; exact PySem.W.eq_bytes (fin_bl I q dec_byt)
    | _ => exact absurd (show false = true from hs) Bool.false_ne_true
  | _ => cases y <;> exact absurd (show false = true from hs) Bool.false_ne_true
theorem op_ne : OpR X (compareOp .NotEq) rNe := by
  intro pins s σ H x y v u Q I rx ry h
  obtain ⟨hs, q⟩ := h
  cases x with
  | non =>
    cases rx
    cases y with
    | non => cases ry; exact PySem.EqNone.ne_none_none (fin_bl I q (by simp))
    | bl j => cases ry; exact PySem.EqNone.ne_none_bool (fin_bl I q (by simp))
    | int j => obtain ⟨t', rfl⟩ := ry; exact PySem.EqNone.ne_none_int (fin_bl I q (by simp))
    | str j => obtain ⟨t', rfl⟩ := ry; exact PySem.EqNone.ne_none_str (fin_bl I q (by simp))
    | _ => exact absurd (show false = true from hs) Bool.false_ne_true
  | bl i =>
    cases rx
    cases y with
    | non => cases ry; exact PySem.EqNone.ne_bool_none (fin_bl I q (by simp))
    | bl j => cases ry; exact ne_bool (fin_bl I q (congrArg not dec_bl))
    | str j => obtain ⟨t', rfl⟩ := ry; exact PySem.EqMixed.ne_bool_str (fin_bl I q (by simp))
    | _ => exact absurd (show false = true from hs) Bool.false_ne_true
  | int i =>
    obtain ⟨t, rfl⟩ := rx
    cases y with
    | non => cases ry; exact PySem.EqNone.ne_int_none (fin_bl I q (by simp))
    | int j => obtain ⟨t', rfl⟩ := ry; exact ne_int (fin_bl I q (congrArg not dec_int))
    | str j => obtain ⟨t', rfl⟩ := ry; exact PySem.EqMixed.ne_int_str (fin_bl I q (by simp))
    | _ => exact absurd (show false = true from hs) Bool.false_ne_true
  | str i =>
    obtain ⟨t, rfl⟩ := rx
    cases y with
    | non => cases ry; exact PySem.EqNone.ne_str_none (fin_bl I q (by simp))
    | bl j => cases ry; exact PySem.EqMixed.ne_str_bool (fin_bl I q (by simp))
    | int j => obtain ⟨t', rfl⟩ := ry; exact PySem.EqMixed.ne_str_int (fin_bl I q (by simp))
    | str j => obtain ⟨t', rfl⟩ := ry; exact ne_str (fin_bl I q (congrArg not dec_str))
    | _ => exact absurd (show false = true from hs) Bool.false_ne_true
  | byt i =>
    obtain ⟨t, rfl⟩ := rx
    cases y with
    | byt j => obtain ⟨t', rfl⟩ := ry; exact PySem.W.ne_bytes (fin_bl I q (congrArg not dec_byt))
    | _ => exact absurd (show false = true from hs) Bool.false_ne_true
  | _ => cases y <;> exact absurd (show false = true from hs) Bool.false_ne_true
theorem op_lt : OpR X (compareOp .Lt) (rI0 fun i j => .bl (decide (i < j))) := opB0 fun _ _ _ _ _ _ _ q => lt_int q
theorem op_le : OpR X (compareOp .LtE) (rI0 fun i j => .bl (decide (i ≤ j))) := opB0 fun _ _ _ _ _ _ _ q => le_int q
theorem op_gt : OpR X (compareOp .Gt) (rI0 fun i j => .bl (decide (j < i))) := opB0 fun _ _ _ _ _ _ _ q => gt_int q
theorem op_ge : OpR X (compareOp .GtE) (rI0 fun i j => .bl (decide (j ≤ i))) := opB0 fun _ _ _ _ _ _ _ q => ge_int q
theorem nomark (b : Expr) {op : CmpOp} (h : op ≠ .In := by decide) (h2 : op ≠ .NotIn := by decide) : behindInMarks op b = false := by
  have e1 : (op == CmpOp.In) = false := by cases op <;> first | rfl | exact absurd rfl h
  have e2 : (op == CmpOp.NotIn) = false := by cases op <;> first | rfl | exact absurd rfl h2
  cases b <;> simp [behindInMarks, e1, e2]
theorem pe_cmpR {op : CmpOp} {r : R2} (ho : OpR X (compareOp op) r) (ha : PE X a ta) (hb : PE X b tb) (hm : behindInMarks op b = false) : PE X (.Compare a [op] [b] pos) (tOp r ta tb) := by
  intro pins s σ H Q I h
  exact wpAny_Compare1 (binT ha hb I h fun v u s2 x y H2 I2 rx ry q => ho pins s2 σ H2 x y v u Q I2 rx ry q) hm
def tTest (t : TE) : TT := fun σ H Q => t σ H fun x H' => ∃ k, x = .bl k ∧ Q k H'
theorem pt_cmpR {op : CmpOp} {r : R2} (ho : OpR X (compareOp op) r) (ha : PE X a ta) (hb : PE X b tb) (hm : behindInMarks op b = false) : PT X (.Compare a [op] [b] pos) (tTest (tOp r ta tb)) := by
  intro pins s σ H Q I h
  refine wpAny_isTrue_Compare1 (thn (ha pins s σ H _ I h) fun v s1 ⟨x, H1, I1, r1, q1⟩ => thn (hb pins s1 σ H1 _ I1 q1) fun u s2 ⟨y, H2, I2, r2, q2⟩ =>
    thn (ho pins s2 σ H2 x y v u _ I2 r1 r2 q2) fun c s3 ⟨z, H3, I3, r3, k, e, q3⟩ => ?_) hm
  subst e
  cases r3
  exact wpAny_truthy_bool ⟨H3, I3, q3⟩
def tChain (r r' : R2) (ta tb tc : TE) : TE := fun σ H Q => ta σ H fun x H1 => tb σ H1 fun y H2 => r x y H2 fun z H3 => ∃ k, z = .bl k ∧
  (if k = true then tc σ H3 fun w' H4 => r' y w' H4 Q else Q (.bl false) H3)
theorem pe_chain {op op' : CmpOp} {r r' : R2} (ho : OpR X (compareOp op) r) (ho' : OpR X (compareOp op') r') (ha : PE X a ta) (hb : PE X b tb) (hc : PE X c tc)
    (hm : lastMarks [op, op'] [b, c] = false := by with_unfolding_all rfl) : PE X (.Compare a [op, op'] [b, c] pos) (tChain r r' ta tb tc) := by
  intro pins s σ H Q I h
  refine Compare_chain (thn (ha pins s σ H _ I h) fun v s1 ⟨x, H1, I1, r1, q1⟩ => chain_link (thn (hb pins s1 σ H1 _ I1 q1) fun u s2 ⟨y, H2, I2, r2, q2⟩ =>
    thn (ho pins s2 σ H2 x y v u _ I2 r1 r2 q2) fun d s3 ⟨z, H3, I3, r3, k, e, q3⟩ => ?_)) hm
  subst e
  cases r3
  refine wpAny_truthy_bool ?_
  cases k with
  | false => exact ite_ff ⟨.bl false, H3, I3, rfl, q3⟩
  | true => exact ite_tt (chain_last (thn (hc pins s3 σ H3 _ I3 q3) fun w' s4 ⟨z', H4, I4, r4, q4⟩ => ho' pins s4 σ H4 y z' u w' Q I4 r2 r4 q4))
theorem line63 : (sizeLine : Nat) < 2 ^ 63 := by rw [sizeLine_eq]; decide
theorem vals1 {x : V} {us : List Value} (r : Vals [x] us) : ∃ u, us = [u] ∧ RelV x u := by
  cases r with
  | cons r1 r2 => cases r2; exact ⟨_, rfl, r1⟩
theorem vals2 {x y : V} {us : List Value} (r : Vals [x, y] us) : ∃ u w', us = [u, w'] ∧ RelV x u ∧ RelV y w' := by
  cases r with
  | cons r1 r2 =>
    cases r2 with
    | cons r3 r4 => cases r4; exact ⟨_, _, rfl, r1, r3⟩
theorem call_max2 (hc : X.calm = true) : CallR X (.builtin "max") (fun xs H Q => ∃ i j, xs = [.int i, .int j] ∧ Q (.int (if j > i then j else i)) H) := by
  intro pins s σ H xs us Q I r h
  obtain ⟨i, j, rfl, q⟩ := h
  obtain ⟨u, w', rfl, ⟨t, rfl⟩, ⟨t', rfl⟩⟩ := vals2 r
  refine max_two_ints (I.ok.hd hc) fun h' tk k => ⟨_, H, I.kept k, ?_, q⟩
  by_cases hj : j > i
  · rw [if_pos hj, if_pos hj]; exact ⟨_, rfl⟩
  · rw [if_neg hj, if_neg hj]; exact ⟨_, rfl⟩
theorem call_min2 (hc : X.calm = true) : CallR X (.builtin "min") (fun xs H Q => ∃ i j, xs = [.int i, .int j] ∧ Q (.int (if j < i then j else i)) H) := by
  intro pins s σ H xs us Q I r h
  obtain ⟨i, j, rfl, q⟩ := h
  obtain ⟨u, w', rfl, ⟨t, rfl⟩, ⟨t', rfl⟩⟩ := vals2 r
  refine min_two_ints (I.ok.hd hc) fun h' tk k => ⟨_, H, I.kept k, ?_, q⟩
  by_cases hj : j < i
  · rw [if_pos hj, if_pos hj]; exact ⟨_, rfl⟩
  · rw [if_neg hj, if_neg hj]; exact ⟨_, rfl⟩
theorem call_int1 : CallR X (.type "int") (fun xs H Q => (∃ i, xs = [.int i] ∧ Q (.int i) H) ∨ ∃ k, xs = [.bl k] ∧ Q (.int (if k then 1 else 0)) H) := by
  intro pins s σ H xs us Q I r h
  rcases h with ⟨i, rfl, q⟩ | ⟨k, rfl, q⟩
  · obtain ⟨u, rfl, t, rfl⟩ := vals1 r
    exact call_int_int ⟨.int i, H, I, ⟨_, rfl⟩, q⟩
  · obtain ⟨u, rfl, r1⟩ := vals1 r
    cases r1
    exact call_int_bool ⟨.int (if k then 1 else 0), H, I.tok _, ⟨_, rfl⟩, q⟩
end
end L2
namespace L2
open PySem PySem.Spec PyProof.Rows
structure ObjM (h : Heap) (x dx C : Addr) (mA : Str → Option Value) : Prop where
  obj : h.get? x = some (PySem.W.instObj C dx)
  ns : h.Ns1 dx mA
  ne : dx ≠ x
theorem lookIn_ns {h : Heap} {dx : Addr} {mA : Str → Option Value} (n : h.Ns1 dx mA) : ∃ od, h.get? dx = some od ∧ ∀ name, PySem.W.lookIn name od = some (mA name) := by
  obtain ⟨o, es, ep, ho, hd, hk, _, hm⟩ := n
  refine ⟨o, ho, fun name => ?_⟩
  have e := hm name
  unfold nsFind findBy at e
  rw [← Array.find?_toList] at e
  unfold PySem.W.lookIn
  rw [hd]
  dsimp only
  split
  · rename_i y q
    rw [q] at e
    exact congrArg some e
  · rename_i q
    rw [q] at e
    have a : es.toList.any (·.refKey) = false := by
      rw [List.any_eq_false]
      intro y hy
      obtain ⟨z, t, hkey⟩ := hk y (Array.mem_toList_iff.mp hy)
      simp [DictEntry.refKey, hkey]
    have a' : ¬ es.toList.any (·.refKey) = true := by rw [a]; exact Bool.false_ne_true
    rw [if_neg a']
    exact congrArg some e
theorem ObjM.look {h : Heap} {x dx C : Addr} {mA : Str → Option Value} (I : ObjM h x dx C mA) : ∃ od, PySem.W.InstAt h x (PySem.W.instObj C dx) C (some od) ∧ ∀ name, PySem.W.lookIn name od = some (mA name) :=
  let ⟨od, ho, hl⟩ := lookIn_ns I.ns
  ⟨od, ⟨I.obj, rfl, rfl, ho⟩, hl⟩
section
variable {prog : Program} {w : World} {A : Around} {E : Value → Shared → Prop} {s : Shared} {K : PySem.W.Frag} {x dx C f : Addr} {mA : Str → Option Value} {name : Str} {v : Value}
theorem get_map {expr : Bool} {Q : Value → Shared → Prop} (X : K.In s.heap) (I : ObjM s.heap x dx C mA) (hg : PySem.W.plainGet K C name = true) (hh : PySem.W.hasDictIn K C = true)
    (ha : PySem.W.findIn K (.ref C) name = some none) (hv : mA name = some v) (hv' : PySem.W.handedIn v = true) (h : Q v { s with toks := s.toks + 1 }) :
    wpAny (model prog w) A (getAttr (.ref x) name expr) Q E s := by
  obtain ⟨od, J, hl⟩ := I.look
  exact PySem.W.get_value X J (PySem.W.plainGet_of hg).1 (PySem.W.findObj_own hh ha rfl (by rw [hl, hv])) hv' h
theorem get_meth {pl : Sem Bool} {Q : Value × List Value → Shared → Prop} (X : K.In s.heap) (I : ObjM s.heap x dx C mA) (hg : PySem.W.plainGet K C name = true)
    (hf : PySem.W.findIn K (.ref C) name = some (some (.ref f))) (ht : PySem.W.isFn K (.ref f) = true) (hv : mA name = none) (h : Q (.ref f, [.ref x]) s) :
    wpAny (model prog w) A (getMethod (.ref x) name pl) Q E s := by
  obtain ⟨od, J, hl⟩ := I.look
  exact PySem.W.method_fn X J (PySem.W.plainGet_of hg).1 (PySem.W.plainGet_of hg).2 hf (beq_iff_eq.mp ht) (by show (PySem.W.lookIn name od).map (·.isSome) = some false; rw [hl, hv]; rfl) h
theorem set_map {ns : List Str} {Q : Unit → Shared → Prop} (X : K.In s.heap) (I : ObjM s.heap x dx C mA)
    (hs : PySem.W.findIn K (.ref C) "__setattr__" = some (some (.builtin "object.__setattr__"))) (hp : PySem.W.plainOver K C = true) (ht : PySem.W.takerIn K C name = some none) (hh : PySem.W.hasDictIn K C = true)
    (hw : PySem.Within mA ns) (hsz : ns.length ≤ sizeLine)
    (h : ∀ h', ObjM h' x dx C (fun y => if y = name then some v else mA y) → Heap.SameBut dx s.heap h' → Q () { s with heap := h', toks := s.toks + 2 }) :
    wpAny (model prog w) A (setAttr (.ref x) name v) Q E s := by
  obtain ⟨od, J, hl⟩ := I.look
  refine PySem.W.set_plain X J hs (PySem.W.osa_open (s := { s with toks := s.toks + 1 }) (r := none) X J hp ht fun b => ?_)
  obtain ⟨cd, hc, hd'⟩ := PySem.W.any_some hh
  have hx : s.heap.get? x = some ⟨.ref C, some dx, .plain, #[]⟩ := I.obj
  refine wpAny_bind (wpAny_pure (wpAny_bind (wpAny_bind (wpAny_loadPart hx (wpAny_bind (PySem.W.Looks.here (s := { s with toks := s.toks + 1 }) (PySem.W.looks_clsIn X hc) ?_))))))
  rw [hd']
  refine wpAny_pure (a := some dx) (wpAny_bind (wpAny_pure (wpAny_bind ?_)))
  refine wpAny_nsSet1 (s := { s with toks := s.toks + 1 }) I.ns fun h' hn2 hs2 => ?_
  obtain ⟨oD, esD, epD, hoD, hdD, hcD⟩ := hn2.count (PySem.Within.cons name v hw)
  refine wpAny_bind (wpAny_lookBehind hoD (by rw [hdD]; exact pastItsLine_dict (Nat.le_trans hcD (by rw [List.length_cons]; omega))) ?_)
  exact wpAny_pure (h _ ⟨(hs2.2 _ (Ne.symm I.ne)).trans I.obj, hn2, I.ne⟩ hs2)
theorem make_map {R : Result → Shared → Prop} {vs : List Value} {kw : List (Str × Value)} (X : K.In s.heap) (hm : PySem.W.makesIn K C = true)
    (hi : PySem.W.findIn K (.ref C) "__init__" = some (some (.ref f))) (hf : PySem.W.typeIn K (.ref f) = some (.type "function"))
    (h : codeAny (model prog w) (A.under (.builtin "type.__call__" ⟨.ref C :: vs, kw⟩)) (.call (.ref f) ⟨.ref (s.heap.objs.size + 1) :: vs, kw⟩) (PySem.W.InitBack (s.heap.objs.size + 1) R)
      { s with heap := (s.heap.push PySem.W.emptyDict).push (PySem.W.instObj C s.heap.objs.size) }) :
    codeAny (model prog w) A (.call (.ref C) ⟨vs, kw⟩) R s := by
  obtain ⟨hh, g, d, t, os⟩ := s
  exact PySem.W.make_core (PySem.W.makes_of X hm) (PySem.W.looks_findIn X hi) (fun self => PySem.W.bind_fn X self hf) (.inl rfl) h
end
def putF (f : Str) (v : V) : List (Str × V) → List (Str × V)
  | [] => [(f, v)]
  | (g, x) :: r => if g = f then (g, v) :: r else (g, x) :: putF f v r
theorem lookup_putF (f g : Str) (v : V) : ∀ fs : List (Str × V), (putF f v fs).lookup g = if g = f then some v else fs.lookup g
  | [] => by
    show List.lookup g [(f, v)] = _
    by_cases h : g = f
    · have hb : (g == f) = true := beq_iff_eq.mpr h
      simp only [List.lookup, hb, if_pos h]
    · have hb : (g == f) = false := beq_eq_false_iff_ne.mpr h
      simp only [List.lookup, hb, if_neg h]
  | (k, x) :: r => by
    have ih := lookup_putF f g v r
    rw [show putF f v ((k, x) :: r) = (if k = f then (k, v) :: r else (k, x) :: putF f v r) from rfl]
    by_cases hk : k = f
    · rw [if_pos hk]
      by_cases h : g = k
      · have hb : (g == k) = true := beq_iff_eq.mpr h
        simp only [List.lookup, hb, if_pos (h.trans hk)]
      · have hb : (g == k) = false := beq_eq_false_iff_ne.mpr h
        simp only [List.lookup, hb, if_neg (fun e : g = f => h (e.trans hk.symm))]
    · rw [if_neg hk]
      by_cases h : g = k
      · have hb : (g == k) = true := beq_iff_eq.mpr h
        simp only [List.lookup, hb, if_neg (fun e : g = f => hk (h.symm.trans e))]
      · have hb : (g == k) = false := beq_eq_false_iff_ne.mpr h
        simp only [List.lookup, hb]
        exact ih
theorem keys_putF (f : Str) (v : V) : ∀ fs : List (Str × V), f ∈ (putF f v fs).map (·.1) ∧ ∀ g, g ∈ fs.map (·.1) → g ∈ (putF f v fs).map (·.1)
  | [] => ⟨by simp [putF], fun g h => by simp at h⟩
  | (k, x) :: r => by
    obtain ⟨i1, i2⟩ := keys_putF f v r
    rw [show putF f v ((k, x) :: r) = (if k = f then (k, v) :: r else (k, x) :: putF f v r) from rfl]
    by_cases hk : k = f
    · rw [if_pos hk]
      subst hk
      exact ⟨by simp, fun g h => by simpa using h⟩
    · rw [if_neg hk]
      refine ⟨?_, fun g h => ?_⟩
      · rw [List.map_cons]
        exact List.mem_cons_of_mem _ i1
      · rw [List.map_cons] at h ⊢
        rcases List.mem_cons.mp h with e | e
        · exact List.mem_cons.mpr (.inl e)
        · exact List.mem_cons_of_mem _ (i2 g e)
theorem length_putF (f : Str) (v : V) : ∀ fs : List (Str × V), (putF f v fs).length ≤ fs.length + 1
  | [] => by simp [putF]
  | (k, x) :: r => by
    have ih := length_putF f v r
    rw [show putF f v ((k, x) :: r) = (if k = f then (k, v) :: r else (k, x) :: putF f v r) from rfl]
    by_cases hk : k = f
    · rw [if_pos hk, List.length_cons, List.length_cons]; omega
    · rw [if_neg hk, List.length_cons, List.length_cons]; omega
theorem RelO.some_of {v : V} {o : Option Value} (r : RelO (some v) o) : ∃ u, o = some u ∧ RelV v u := by
  cases o with
  | none => exact (show False from r).elim
  | some u => exact ⟨u, rfl, r⟩
theorem RelO.none_of {o : Option Value} (r : RelO none o) : o = none := by
  cases o with
  | none => rfl
  | some u => exact (show False from r).elim
theorem handed_of {v : V} {u : Value} (r : RelV v u) : PySem.W.handedIn u = true := by
  cases v with
  | non => cases (show u = Value.none from r); rfl
  | bl b => cases (show u = Value.bool b from r); rfl
  | int i => obtain ⟨t, e⟩ := (show ∃ t, u = Value.int i t from r); cases e; rfl
  | str x => obtain ⟨t, e⟩ := (show ∃ t, u = Value.str x t from r); cases e; rfl
  | byt b => obtain ⟨t, e⟩ := (show ∃ t, u = Value.bytes b t from r); cases e; rfl
  | flt b => obtain ⟨t, e⟩ := (show ∃ t, u = Value.float b t from r); cases e; rfl
  | ref a => cases (show u = Value.ref a from r); rfl
  | ty n => cases (show u = Value.type n from r); rfl
section
variable {P : Program} {w : World} {H H' : Hp} {h h' : Heap} {a C dx : Addr} {fs fs' : List (Str × V)}
theorem ins_get (hok : HOk P w H h) (e : H a = some (.ins C dx fs)) : ∃ mA, ObjM h a dx C mA ∧ (∀ f, RelO (fs.lookup f) (mA f)) ∧ PySem.Within mA (fs.map (·.1)) ∧ fs.length ≤ 1000 ∧ H dx = some (.own a) := by
  obtain ⟨d, z, ne, ob, mA, n, r, q⟩ := (show ObjOk P w H h a (.ins C dx fs) from hok a _ e)
  exact ⟨mA, ⟨ob, n, ne⟩, r, q, z, d⟩
end
structure Cls (K : PySem.W.Frag) (C : Addr) : Prop where
  pg : PySem.W.plainGet K C Str.empty = true
  hd : PySem.W.hasDictIn K C = true
  po : PySem.W.plainOver K C = true
  sa : PySem.W.findIn K (.ref C) "__setattr__" = some (some (.builtin "object.__setattr__"))
theorem Cls.get {K : PySem.W.Frag} {C : Addr} (c : Cls K C) (f : Str) : PySem.W.plainGet K C f = true := c.pg
def NoAttr (K : PySem.W.Frag) (C : Addr) (f : Str) : Prop := PySem.W.findIn K (.ref C) f = some none
theorem NoAttr.taker {K : PySem.W.Frag} {C : Addr} {f : Str} (n : NoAttr K C f) : PySem.W.takerIn K C f = some none := by
  unfold PySem.W.takerIn
  rw [show PySem.W.findIn K (.ref C) f = some none from n]
  rfl
structure Meth (K : PySem.W.Frag) (C : Addr) (m : Str) (f : Addr) : Prop where
  at_ : PySem.W.findIn K (.ref C) m = some (some (.ref f))
  fn : PySem.W.isFn K (.ref f) = true
  kp : PySem.W.keepIn K (.ref f) = true
section
variable {X : Cx} {pins : List (Addr × Obj)} {σ : St} {H : Hp} {s : Shared} {a C dx : Addr} {fs : List (Str × V)} {f : Str} {v : V} {A : Around} {E : Value → Shared → Prop}
theorem getattr_ok {b : Bool} {Q : Value → Shared → Prop} (I : Inv X pins σ H s) (e : H a = some (.ins C dx fs)) (c : Cls X.K C) (n : NoAttr X.K C f) (l : fs.lookup f = some v)
    (h : ∀ u s', Inv X pins σ H s' → RelV v u → Q u s') : wpAny (model X.prog X.w) A (getAttr (.ref a) f b) Q E s := by
  obtain ⟨mA, O, r, _, _, _⟩ := ins_get I.hok e
  obtain ⟨u, hu, ru⟩ := RelO.some_of (v := v) (o := mA f) (by rw [← l]; exact r f)
  exact get_map I.kIn O (c.get f) c.hd n hu (handed_of ru) (h u _ (I.tok _) ru)
theorem getmeth_ok {m : Str} {g : Addr} {pl : Sem Bool} {Q : Value × List Value → Shared → Prop} (I : Inv X pins σ H s) (e : H a = some (.ins C dx fs)) (c : Cls X.K C) (k : Meth X.K C m g) (l : fs.lookup m = none)
    (h : Q (.ref g, [.ref a]) s) : wpAny (model X.prog X.w) A (getMethod (.ref a) m pl) Q E s := by
  obtain ⟨mA, O, r, _, _, _⟩ := ins_get I.hok e
  have hn : mA m = none := RelO.none_of (by rw [← l]; exact r m)
  exact get_meth I.kIn O (c.get m) k.at_ k.fn hn h
theorem setattr_ok {y : V} {u : Value} {Q : Unit → Shared → Prop} (I : Inv X pins σ H s) (e : H a = some (.ins C dx fs)) (c : Cls X.K C) (n : NoAttr X.K C f) (hl : fs.length < 1000) (ry : RelV y u)
    (h : ∀ s', Inv X pins σ (upd H a (.ins C dx (putF f y fs))) s' → Q () s') : wpAny (model X.prog X.w) A (setAttr (.ref a) f u) Q E s := by
  obtain ⟨mA, O, r, wi, _, ho⟩ := ins_get I.hok e
  have hz : (fs.map (·.1)).length ≤ sizeLine := by rw [List.length_map, sizeLine_eq]; omega
  refine set_map I.kIn O c.sa c.po n.taker c.hd wi hz fun h' O' sb => h _ ?_
  have hd : ∃ o, h'.get? dx = some o := let ⟨o, _, _, e', _⟩ := O'.ns; ⟨o, e'⟩
  refine I.write (x := a) (e := dx) (by rw [e]; exact True.intro) (.inr ho) (fun b q hb z => (sb.2 b hb).trans z) hd ?_
  refine ⟨by rw [upd_ne O.ne]; exact ho, ?_, O.ne, O'.obj, _, O'.ns, fun g => ?_, fun g hg => ?_⟩
  · have := length_putF f y fs; omega
  · show RelO ((putF f y fs).lookup g) (if g = f then some u else mA g)
    rw [lookup_putF]
    by_cases q : g = f
    · rw [if_pos q, if_pos q]; exact ry
    · rw [if_neg q, if_neg q]; exact r g
  · by_cases q : g = f
    · rw [q]; exact (keys_putF f y fs).1
    · refine (keys_putF f y fs).2 g (wi g fun z => hg ?_)
      show (if g = f then some u else mA g) = none
      rw [if_neg q]; exact z
theorem Inv.made (I : Inv X pins σ H s) : Inv X pins σ (upd (upd H s.heap.objs.size (.own (s.heap.objs.size + 1))) (s.heap.objs.size + 1) (.ins C s.heap.objs.size []))
    { s with heap := (s.heap.push PySem.W.emptyDict).push (PySem.W.instObj C s.heap.objs.size) } := by
  have e1 : (s.heap.push PySem.W.emptyDict).get? s.heap.objs.size = some PySem.W.emptyDict := Heap.get?_push_size s.heap rfl
  have e2 : ((s.heap.push PySem.W.emptyDict).push (PySem.W.instObj C s.heap.objs.size)).get? (s.heap.objs.size + 1) = some (PySem.W.instObj C s.heap.objs.size) := by
    have := Heap.get?_push_size (s.heap.push PySem.W.emptyDict) (o := PySem.W.instObj C s.heap.objs.size) rfl
    rwa [Heap.size_push] at this
  have e3 : (s.heap.push PySem.W.emptyDict).Ns s.heap.objs.size (fun _ => none) := ⟨PySem.W.emptyDict, #[], _, e1, rfl, (fun e he => absurd he (by simp)), fun _ => rfl⟩
  have I1 := I.laid (a := s.heap.objs.size) (o := .own (s.heap.objs.size + 1)) (h' := s.heap.push PySem.W.emptyDict) (t' := s.toks) (fun b u q => Heap.get?_push_of_some _ q) (Nat.le_refl _) ⟨_, e1⟩
  refine I1.laid (a := s.heap.objs.size + 1) (o := .ins C s.heap.objs.size []) (t' := s.toks) (fun b u q => Heap.get?_push_of_some _ q) (Nat.le_of_eq (Heap.size_push _ _)) ?_
  have ne : s.heap.objs.size ≠ s.heap.objs.size + 1 := Nat.ne_of_lt (Nat.lt_succ_self _)
  refine ⟨by rw [upd_ne ne, upd_same], Nat.zero_le _, ne, e2, fun _ => none, (Heap.Ns1.of_empty e3).at fun o q => Heap.get?_push_of_some _ q, fun _ => True.intro, fun y hy => absurd rfl hy⟩
theorem attr_of {prog : Program} {w : World} {env : Env} {e : Expr} {f : Str} {pos : Pos} {s : Shared} {Q : Value → Shared → Prop} (hb : attributeBase e f env (eval e env) = eval e env)
    (h : wpAny (model prog w) A (eval e env) (fun o s₁ => wpAny (model prog w) A (getAttr o f true) Q E s₁) E s) : wpAny (model prog w) A (eval (.Attribute e f pos) env) Q E s :=
  Attribute_any_ h (by rw [arm_eval_Attribute, hb])
end
def tFld (K : PySem.W.Frag) (ta : TE) (f : Str) : TE := fun σ H Q => ta σ H fun x H1 => ∃ a C dx fs v, x = .ref a ∧ H1 a = some (.ins C dx fs) ∧ Cls K C ∧ NoAttr K C f ∧ fs.lookup f = some v ∧ Q v H1
def sFld (K : PySem.W.Frag) (ta tv : TE) (f : Str) : TS := fun D σ H => tv σ H fun y H1 => ta σ H1 fun x H2 => ∃ a C dx fs, x = .ref a ∧ H2 a = some (.ins C dx fs) ∧ Cls K C ∧ NoAttr K C f ∧ fs.length < 1000 ∧
  D.nx σ (upd H2 a (.ins C dx (putF f y fs)))
section
variable {X : Cx} {o e value : Expr} {f : Str} {pos pos' tpos : Pos} {ta tv : TE}
theorem pe_fld (he : PE X e ta) (hb : attributeBase e f X.env (eval e X.env) = eval e X.env) : PE X (.Attribute e f pos) (tFld X.K ta f) := by
  intro pins s σ H Q I h
  refine attr_of hb (thn (he pins s σ H _ I h) fun u s1 ⟨x, H1, I1, rx, a, C, dx, fs, v, ex, ea, c, n, l, q⟩ => ?_)
  subst ex
  obtain rfl : u = Value.ref a := rx
  exact getattr_ok I1 ea c n l fun u' s2 I2 ru => ⟨v, H1, I2, ru, q⟩
theorem ps_fld (ha : PE X o ta) (hv : PE X value tv) (hs : swapsWith value (some (.Attribute o f pos')) pos.line X.env = pure false) : PS X (.Assign [.Attribute o f pos'] value pos) (sFld X.K ta tv f) := by
  intro pins s σ H D I h
  refine plainObj_wpAny_Assign_Attribute (thn (hv pins s σ H _ I h) fun u s1 ⟨y, H1, I1, ry, q⟩ => thn (ha pins s1 σ H1 _ I1 q) fun ov s2 ⟨x, H2, I2, rx, a, C, dx, fs, ex, ea, c, n, l, q2⟩ => ?_) hs
  subst ex
  obtain rfl : ov = Value.ref a := rx
  exact setattr_ok I2 ea c n l ry fun s3 I3 => ⟨σ, _, I3, q2⟩
end
section
variable {X : Cx} {pins : List (Addr × Obj)} {σ : St} {H : Hp} {s : Shared} {A : Around} {E : Value → Shared → Prop} {Q : Value → Shared → Prop} {c : Value} {b : Bool}
inductive TyOf (K : PySem.W.Frag) (H : Hp) : V → Value → Prop where
  | non : TyOf K H .non (.type "NoneType")
  | bl (x : Bool) : TyOf K H (.bl x) (.type "bool")
  | int (i : Int) : TyOf K H (.int i) (.type "int")
  | str (x : Str) : TyOf K H (.str x) (.type "str")
  | flt (x : UInt64) : TyOf K H (.flt x) (.type "float")
  | lst {a : Addr} {xs : List V} (e : H a = some (.lst xs)) : TyOf K H (.ref a) (.type "list")
  | frz {a : Addr} {o : Obj} {xs : List V} (e : H a = some (.frz o (.lst xs))) : TyOf K H (.ref a) (.type "list")
  | tup {a : Addr} {xs : List V} (e : H a = some (.tup xs)) : TyOf K H (.ref a) (.type "tuple")
  | dK {a : Addr} {kvs : List (Key × V)} (e : H a = some (.dK kvs)) : TyOf K H (.ref a) (.type "dict")
  | dT {a : Addr} {kvs : List (List Key × V)} (e : H a = some (.dT kvs)) : TyOf K H (.ref a) (.type "dict")
  | ins {a C dx : Addr} {fs : List (Str × V)} (e : H a = some (.ins C dx fs)) (cl : Cls K C) (ha : PySem.W.findIn K (.ref C) "__class__" = some (some (.builtin "object.__class__")))
      (hn : PySem.W.specialIn K (.builtin "object.__class__") "__get__" = some (some (.builtin "getset_descriptor.__get__"))) (htk : PySem.W.takesIn K (.builtin "object.__class__") = some true)
      (hm : PySem.W.mroIn K C (.type "object") = some true) : TyOf K H (.ref a) (.ref C)
theorem isinst_ok {x : V} {u t : Value} (I : Inv X pins σ H s) (rx : RelV x u) (ty : TyOf X.K H x t) (e : PySem.W.kitOne X.K t c = some b) (h : ∀ tk, Q (.bool b) { s with toks := tk }) :
    wpAny (model X.prog X.w) A (call (.builtin "isinstance") [u, c]) Q E s := by
  cases ty with
  | non => cases (show u = Value.none from rx); exact PySem.W.kia_one PySem.W.kitx_none I.kIn True.intro e (fun z => nomatch z) h
  | bl y => cases (show u = Value.bool y from rx); exact PySem.W.kia_one PySem.W.kitx_bool I.kIn True.intro e (fun z => nomatch z) h
  | int i => obtain ⟨t, q⟩ := (show ∃ t, u = Value.int i t from rx); cases q; exact PySem.W.kia_one PySem.W.kitx_int I.kIn True.intro e (fun z => nomatch z) h
  | str y => obtain ⟨t, q⟩ := (show ∃ t, u = Value.str y t from rx); cases q; exact PySem.W.kia_one PySem.W.kitx_str I.kIn True.intro e (fun z => nomatch z) h
  | flt y => obtain ⟨t, q⟩ := (show ∃ t, u = Value.float y t from rx); cases q; exact PySem.W.kia_one PySem.W.kitx_float I.kIn True.intro e (fun z => nomatch z) h
  | @lst a xs ea =>
    cases (show u = Value.ref a from rx)
    obtain ⟨_, _, n, _, h1⟩ := (show ObjOk X.prog X.w H s.heap a (.lst xs) from I.hok a _ ea)
    exact PySem.W.kia_one PySem.W.kitx_list I.kIn ⟨_, h1, rfl⟩ e (fun z => nomatch z) h
  | @frz a ob xs ea =>
    cases (show u = Value.ref a from rx)
    obtain ⟨_, _, _, n, _, h1⟩ := (show ObjOk X.prog X.w H s.heap a (.frz ob (.lst xs)) from I.hok a _ ea)
    exact PySem.W.kia_one PySem.W.kitx_list I.kIn ⟨_, h1, rfl⟩ e (fun z => nomatch z) h
  | @tup a xs ea =>
    cases (show u = Value.ref a from rx)
    obtain ⟨_, _, _, p⟩ := (show ObjOk X.prog X.w H s.heap a (.tup xs) from I.hok a _ ea)
    obtain ⟨o, h1, h2, _⟩ := p
    exact PySem.W.kia_one PySem.W.kitx_tuple I.kIn ⟨o, h1, h2⟩ e (fun z => nomatch z) h
  | @dK a kvs ea =>
    cases (show u = Value.ref a from rx)
    obtain ⟨_, _, vs, _, p⟩ := (show ObjOk X.prog X.w H s.heap a (.dK kvs) from I.hok a _ ea)
    obtain ⟨o, es, ep, h1, h2, _⟩ := p
    exact PySem.W.kia_one PySem.W.kitx_dict I.kIn ⟨o, h1, h2.1⟩ e (fun z => nomatch z) h
  | @dT a kvs ea =>
    cases (show u = Value.ref a from rx)
    obtain ⟨_, _, xs, _, o, es, ep, h1, h2, _⟩ := (show ObjOk X.prog X.w H s.heap a (.dT kvs) from I.hok a _ ea)
    exact PySem.W.kia_one PySem.W.kitx_dict I.kIn ⟨o, h1, h2.1⟩ e (fun z => nomatch z) h
  | @ins a C dx fs ea cl ha hn htk hm =>
    cases (show u = Value.ref a from rx)
    obtain ⟨mA, O, _⟩ := ins_get I.hok ea
    obtain ⟨od, J, _⟩ := O.look
    exact PySem.W.kia_one (PySem.W.kitx_own (cl.get _) cl.hd ha hn htk hm) I.kIn J e (fun z => nomatch z) h
end
end L2
namespace L2
open PySem PySem.Spec PyProof.Rows
structure Room (k : Nat) (A : Around) : Prop where
  hd : A.handled = none
  dp : A.depth + 3 * k + 5 < recursionLimit
  un : A.units + 16 * k + 200 < cLine
theorem Room.mono {j k : Nat} {A : Around} (r : Room k A) (h : j ≤ k) : Room j A := ⟨r.hd, by have := r.dp; omega, by have := r.un; omega⟩
theorem Room.deeper {k : Nat} {A : Around} (r : Room (k + 1) A) (env : Env) : Room k (A.deeper env) :=
  ⟨r.hd, by have := r.dp; show A.depth + 1 + 3 * k + 5 < _; omega, by have := r.un; show A.units + 3 + 16 * k + 200 < _; omega⟩
theorem make_depth {A : Around} {C : Addr} {us : List Value} {kw : List (Str × Value)} : (A.under (.builtin "type.__call__" ⟨.ref C :: us, kw⟩)).depth = A.depth + 1 := by
  first | rfl | simp [Around.under, Code.weight, Code.isCreation, Code.isGuard, Code.isCaller, Code.frames, Code.isFrame, guardIds]
theorem make_units {A : Around} {C : Addr} {us : List Value} {kw : List (Str × Value)} : (A.under (.builtin "type.__call__" ⟨.ref C :: us, kw⟩)).units = A.units + 1 := by
  first | rfl | simp [Around.under, Code.cUnits, Code.frames, Code.isFrame]
theorem Room.make {k : Nat} {A : Around} (r : Room (k + 1) A) (C : Addr) (us : List Value) (kw : List (Str × Value)) : Room k (A.under (.builtin "type.__call__" ⟨.ref C :: us, kw⟩)) :=
  ⟨r.hd, by have := r.dp; rw [make_depth]; omega, by have := r.un; rw [make_units]; omega⟩
theorem Room.depth {k : Nat} {A : Around} (r : Room k A) : A.depth < recursionLimit := by have := r.dp; omega
theorem Room.units {k : Nat} {A : Around} (r : Room k A) : A.units + 64 < cLine := by have := r.un; omega
def tNil : TA := fun _ H Q => Q [] H
def tCons (ta : TE) (tr : TA) : TA := fun σ H Q => ta σ H fun x H1 => tr σ H1 fun xs H2 => Q (x :: xs) H2
section
variable {X : Cx} {e : Expr} {es : List Expr} {te : TE} {t : TA} {pos : Pos}
theorem pa_nil : PA X [] tNil := fun _ _ _ _ H Q I h => Calls.spliced_nil ⟨[], H, I, .nil, h⟩
theorem pa_cons (ha : PE X e te) (hr : PA X es t) (hs : starEach (e :: es) X.env = (false, eval e X.env) :: starEach es X.env := by rfl) : PA X (e :: es) (tCons te t) := by
  intro pos pins s σ H Q I h
  rw [hs]
  show wpAny _ _ (spliced ((false, eval e X.env) :: backTo pos (starEach es X.env))) _ _ s
  refine Calls.spliced_cons (thn (ha pins s σ H _ I h) fun u s1 ⟨x, H1, I1, r1, q1⟩ => ?_)
  exact thn (hr pos pins s1 σ H1 _ I1 q1) fun us s2 ⟨xs, H2, I2, r2, q2⟩ => ⟨x :: xs, H2, I2, .cons r1 r2, q2⟩
def tTup (t : TA) : TE := fun σ H Q => t σ H fun xs H1 => xs.length ≤ sizeLine ∧ ∀ p, H1 p = none → Q (.ref p) (upd H1 p (.tup xs))
def tLst (t : TA) : TE := fun σ H Q => t σ H fun xs H1 => xs.length ≤ sizeLine ∧ ∀ p, H1 p = none → Q (.ref p) (upd H1 p (.lst xs))
theorem pe_tup {x1} (h : PA X es t) : PE X (.Tuple es x1 pos) (tTup t) := by
  intro pins s σ H Q I hq
  refine wpAny_Tuple_spliced (thn (h pos pins s σ H _ I hq) fun us s1 ⟨xs, H1, I1, r, z, q⟩ => ⟨by rw [← r.length]; exact z, ?_⟩)
  have hf : H1 s1.heap.objs.size = none := I1.hok.fresh (Nat.le_refl _)
  refine ⟨.ref s1.heap.objs.size, upd H1 s1.heap.objs.size (.tup xs), I1.laid (t' := s1.toks) (fun b u e => Heap.get?_push_of_some _ e) (Nat.le_refl _) ?_, rfl, q _ hf⟩
  exact ⟨⟨z, new_bare⟩, us, r, ⟨_, Heap.get?_push_size _ rfl, rfl, _, rfl⟩⟩
theorem pe_lst (h : PA X es t) : PE X (.List es pos) (tLst t) := by
  intro pins s σ H Q I hq
  refine wpAny_List_spliced (thn (h pos pins s σ H _ I hq) fun us s1 ⟨xs, H1, I1, r, z, q⟩ => ⟨by rw [← r.length]; exact z, ?_⟩)
  have hf : H1 s1.heap.objs.size = none := I1.hok.fresh (Nat.le_refl _)
  refine ⟨.ref s1.heap.objs.size, upd H1 s1.heap.objs.size (.lst xs), I1.laid (t' := s1.toks) (fun b u e => Heap.get?_push_of_some _ e) (Nat.le_refl _) ?_, rfl, q _ hf⟩
  exact ⟨z, us, 0, r, Heap.get?_push_size _ rfl⟩
end
abbrev Sp := List V → Hp → VK → XK → Prop
abbrev CXT := List Env → Hp → Shared → XK → Value → Shared → Prop
structure Env0 (P : Program) (w : World) (K : PySem.W.Frag) (mg : Str → Option Value) (base : Heap) (A : Around) (outer : List Env) (s : Shared) (H : Hp) : Prop where
  frames : A.frames = some outer
  mod : Mod K mg base
  bs : ∀ b o, base.get? b = some o → s.heap.get? b = some o ∧ H b = none
  bsz : base.objs.size ≤ s.heap.objs.size
  funs : s.heap.FunFrames base outer
  frf : ∀ b ∈ frs outer, H b = none
  hok : HOk P w H s.heap
  bare : AllBare s.gens
def CE (outer : List Env) (P : Program) (w : World) (H : Hp) (s : Shared) (Q : VK) (u : Value) (s' : Shared) : Prop :=
  ∃ v H', s'.os = s.os ∧ AllBare s'.gens ∧ Un (frs outer) [] H H' s.heap s'.heap ∧ HOk P w H' s'.heap ∧ RelV v u ∧ Q v H'
def CR (CX : CXT) (outer : List Env) (P : Program) (w : World) (H : Hp) (s : Shared) (Q : VK) (E : XK) (r : Result) (s' : Shared) : Prop :=
  match r with
  | .ok (.ret u) => CE outer P w H s Q u s'
  | .ok _ => False
  | .error e => CX outer H s E e s'
structure FnOk (P : Program) (w : World) (K : PySem.W.Frag) (mg : Str → Option Value) (base : Heap) (CX : CXT) (k : Nat) (f : Addr) (fd : FuncData) (ps : List Str) (sp : Sp) : Prop where
  len : ∀ vs H Q E, sp vs H Q E → vs.length = ps.length
  run : ∀ (A : Around) (outer : List Env) (s : Shared) (H : Hp) (args : Args) (us : List Value) (vs : List V) (Q : VK) (E : XK), Room k A → Env0 P w K mg base A outer s H → BindsTo s fd args (ps.zip us) → Vals vs us → sp vs H Q E →
    codeAny (model P w) A (.call (.ref f) args) (CR CX outer P w H s Q E) s
theorem Env0.make {P : Program} {w : World} {K : PySem.W.Frag} {mg : Str → Option Value} {base : Heap} {A : Around} {outer : List Env} {s : Shared} {H : Hp} (e : Env0 P w K mg base A outer s H) (C : Addr) (us : List Value) (kw : List (Str × Value)) :
    Env0 P w K mg base (A.under (.builtin "type.__call__" ⟨.ref C :: us, kw⟩)) outer s H := ⟨by first | exact e.frames | (simpa [Around.under, Code.envs, Code.isFrame, pushEnvs] using e.frames), e.mod, e.bs, e.bsz, e.funs, e.frf, e.hok, e.bare⟩
section
variable {X : Cx} {pins : List (Addr × Obj)} {σ : St} {H : Hp} {s s' : Shared}
theorem Inv.env0 (I : Inv X pins σ H s) : Env0 X.prog X.w X.K X.mg X.base X.A X.stack s H :=
  ⟨I.ok.frames, I.ok.mod, I.bs, Nat.le_trans I.ok.bsz I.sz, I.stack, I.stkFree, I.hok, I.bare⟩
theorem Inv.after {Q : VK} {u : Value} (I : Inv X pins σ H s) (h : CE X.stack X.prog X.w H s Q u s') : EP X pins σ Q u s' := by
  obtain ⟨v, H', os, bare, un, hok, r, q⟩ := h
  obtain ⟨hh, g, d, t, os'⟩ := s'
  obtain rfl : os' = s.os := os
  exact ⟨v, H', I.call (h' := hh) (g' := g) (d' := d) (t' := t) (ch := []) un hok bare (fun b z => absurd z (by simp)), r, q⟩
end
def tCall (sp : Sp) (dvs : List V) (E : XK) (t : TA) : TE := fun σ H Q => t σ H fun vs H1 => sp (vs ++ dvs) H1 Q E
def tMeth (C : Addr) (m : Str) (sp : Sp) (dvs : List V) (E : XK) (ta : TE) (t : TA) : TE := fun σ H Q => ta σ H fun x H1 => ∃ a dx fs, x = .ref a ∧ H1 a = some (.ins C dx fs) ∧ fs.lookup m = none ∧
  t σ H1 fun vs H2 => sp (x :: (vs ++ dvs)) H2 Q E
def tMake (C : Addr) (sp : Sp) (dvs : List V) (E : XK) (t : TA) : TE := fun σ H Q => t σ H fun vs H1 => ∀ x dx, H1 x = none → H1 dx = none → dx ≠ x →
  sp (.ref x :: (vs ++ dvs)) (upd (upd H1 dx (.own x)) x (.ins C dx [])) (fun v H2 => v = .non ∧ Q (.ref x) H2) E
def Binds (K : PySem.W.Frag) (fd : FuncData) (ps : List Str) (ds : List Value) : Prop :=
  ∀ (s : Shared) (us : List Value), K.In s.heap → (us ++ ds).length = ps.length → BindsTo s fd ⟨us, []⟩ (ps.zip (us ++ ds))
theorem Binds.all {K : PySem.W.Frag} {fd : FuncData} {ps : List Str} (h : ∀ us : List Value, us.length = ps.length → bindArgs fd ⟨us, []⟩ = pure (ps.zip us)) : Binds K fd ps [] := fun s us _ hl => by
  rw [List.append_nil] at hl ⊢
  exact .of_eq (h us hl)
def Passes (CX : CXT) (X : Cx) (E : XK) : Prop := ∀ (pins : List (Addr × Obj)) (σ : St) (H : Hp) (s : Shared) (e : Value) (s' : Shared), Inv X pins σ H s → CX X.stack H s E e s' → X.xe e s'
section
variable {X : Cx} {CX : CXT} {k : Nat} {f C : Addr} {fd : FuncData} {ps : List Str} {sp : Sp} {dvs : List V} {ds : List Value} {E : XK} {x m : Str} {p pos apos : Pos} {e o : Expr} {es : List Expr} {ta : TE} {t : TA}
theorem run_fn {pins : List (Addr × Obj)} {σ : St} {H : Hp} {s : Shared} {Q : VK} {us : List Value} {vs : List V} (F : FnOk X.prog X.w X.K X.mg X.base CX k f fd ps sp) (hr : Room k X.A) (hb : Binds X.K fd ps ds) (hd : Vals dvs ds) (hx : Passes CX X E)
    (I : Inv X pins σ H s) (r : Vals vs us) (h : sp (vs ++ dvs) H Q E) : wpAny (model X.prog X.w) X.A (call (.ref f) us) (EP X pins σ Q) X.xe s := by
  have r2 : Vals (vs ++ dvs) (us ++ ds) := r.append hd
  have hl : (us ++ ds).length = ps.length := by rw [← r2.length]; exact F.len _ _ _ _ h
  refine wpAny_call (codeAny_mono (F.run X.A X.stack s H ⟨us, []⟩ (us ++ ds) (vs ++ dvs) Q E hr I.env0 (hb s us I.kIn hl) r2 h) fun r s' hq => ?_)
  cases r with
  | error e => exact hx pins σ H s e s' I hq
  | ok fl =>
    cases fl with
    | ret u => exact I.after hq
    | next => exact False.elim hq
    | brk => exact False.elim hq
    | cont => exact False.elim hq
theorem pe_call (F : FnOk X.prog X.w X.K X.mg X.base CX k f fd ps sp) (hr : Room k X.A) (hg : Gl X x) (hm : X.mg x = some (.ref f)) (hk : PySem.W.keepIn X.K (.ref f) = true) (hb : Binds X.K fd ps ds) (hd : Vals dvs ds) (hx : Passes CX X E)
    (ha : PA X (e :: es) t) (hdb : (x == ("__debug__" : Str)) = false := by decide) (he : starEach (e :: es) X.env = (false, eval e X.env) :: starEach es X.env := by rfl) (hpl : (backTo pos (starEach es X.env)).any (·.1) = false := by rfl) :
    PE X (.Call (.Name x p) (e :: es) [] pos) (tCall sp dvs E t) := by
  intro pins s σ H Q I h
  refine wpAny_Call_Name_kw (ld_glob I hg hm ?_ hdb)
  refine PySem.W.callWith_K (h₀ := X.base) I.ok.mod.kin hk (thn (ha pos pins s σ H _ I h) fun us s1 ⟨vs, H1, I1, r, q⟩ => ⟨I1.kIn, ?_⟩) he hpl
  exact run_fn F hr hb hd hx I1 r q
theorem pe_meth {pl : Sem Bool} (he : PE X o ta) (c : Cls X.K C) (hm : Meth X.K C m f) (F : FnOk X.prog X.w X.K X.mg X.base CX k f fd ps sp) (hr : Room k X.A) (hb : Binds X.K fd ps ds) (hd : Vals dvs ds) (hx : Passes CX X E) (ha : PA X (e :: es) t)
    (hst : starEach (e :: es) X.env = (false, eval e X.env) :: starEach es X.env := by rfl) (hpl : (backTo pos (starEach es X.env)).any (·.1) = false := by rfl)
    (ht : eval (.Call (.Attribute o m apos) (e :: es) [] pos) X.env = (do
      let ov ← eval o X.env
      standAt apos.atName
      let (f, first) ← holding [ov] (getMethod ov m pl)
      callWith pos f first (backTo pos (starEach (e :: es) X.env)) (backToKw pos (keywordEach [] X.env))) := by rfl) :
    PE X (.Call (.Attribute o m apos) (e :: es) [] pos) (tMeth C m sp dvs E ta t) := by
  intro pins s σ H Q I h
  refine PySem.W.methodCall_KW (pl := pl) (thn (he pins s σ H _ I h) fun u s1 ⟨x, H1, I1, rx, a, dx, fs, ex, ea, l, q⟩ => ?_) ht
  subst ex
  obtain rfl : u = Value.ref a := rx
  refine getmeth_ok I1 ea c hm l ?_
  refine PySem.W.callWith_K (first := [.ref a]) (h₀ := X.base) I.ok.mod.kin hm.kp (thn (ha pos pins s1 σ H1 _ I1 q) fun us s2 ⟨vs, H2, I2, r, q2⟩ => ⟨I2.kIn, ?_⟩) hst hpl
  exact run_fn (us := .ref a :: us) (vs := .ref a :: vs) F hr hb hd hx I2 (.cons rfl r) q2
theorem pe_meth0 {pl : Sem Bool} (he : PE X o ta) (c : Cls X.K C) (hm : Meth X.K C m f) (F : FnOk X.prog X.w X.K X.mg X.base CX k f fd ps sp) (hr : Room k X.A) (hb : Binds X.K fd ps ds) (hd : Vals dvs ds) (hx : Passes CX X E)
    (ht : eval (.Call (.Attribute o m apos) [] [] pos) X.env = (do
      let ov ← eval o X.env
      standAt apos.atName
      let (f, first) ← holding [ov] (getMethod ov m pl)
      callWith pos f first (backTo pos (starEach [] X.env)) (backToKw pos (keywordEach [] X.env))) := by rfl) :
    PE X (.Call (.Attribute o m apos) [] [] pos) (tMeth C m sp dvs E ta tNil) := by
  intro pins s σ H Q I h
  refine PySem.W.methodCall_KW (pl := pl) (thn (he pins s σ H _ I h) fun u s1 ⟨x, H1, I1, rx, a, dx, fs, ex, ea, l, q⟩ => ?_) ht
  subst ex
  obtain rfl : u = Value.ref a := rx
  refine getmeth_ok I1 ea c hm l ?_
  exact PySem.W.callWith_K0 (first := [.ref a]) I1.kIn hm.kp (run_fn (us := [.ref a]) (vs := [.ref a]) F hr hb hd hx I1 (.cons rfl .nil) q)
structure Mk (K : PySem.W.Frag) (C f : Addr) : Prop where
  makes : PySem.W.makesIn K C = true
  init : PySem.W.findIn K (.ref C) "__init__" = some (some (.ref f))
  fn : PySem.W.isFn K (.ref f) = true
  kp : PySem.W.keepIn K (.ref C) = true
theorem run_make {pins : List (Addr × Obj)} {σ : St} {H : Hp} {s : Shared} {Q : VK} {us : List Value} {vs : List V} (M : Mk X.K C f) (F : FnOk X.prog X.w X.K X.mg X.base CX k f fd ps sp) (hr : Room (k + 1) X.A) (hb : Binds X.K fd ps ds) (hd : Vals dvs ds)
    (hx : Passes CX X E) (I : Inv X pins σ H s) (r : Vals vs us)
    (h : ∀ x dx, H x = none → H dx = none → dx ≠ x → sp (.ref x :: (vs ++ dvs)) (upd (upd H dx (.own x)) x (.ins C dx [])) (fun v H2 => v = .non ∧ Q (.ref x) H2) E) :
    wpAny (model X.prog X.w) X.A (call (.ref C) us) (EP X pins σ Q) X.xe s := by
  have hq := h (s.heap.objs.size + 1) s.heap.objs.size (I.hok.fresh (Nat.le_succ _)) (I.hok.fresh (Nat.le_refl _)) (Nat.ne_of_lt (Nat.lt_succ_self _))
  have I2 := Inv.made (C := C) I
  have r2 : Vals (V.ref (s.heap.objs.size + 1) :: (vs ++ dvs)) (Value.ref (s.heap.objs.size + 1) :: (us ++ ds)) := .cons rfl (r.append hd)
  have hl : (Value.ref (s.heap.objs.size + 1) :: us ++ ds).length = ps.length := by
    have e := r2.length
    rw [F.len _ _ _ _ hq] at e
    exact e.symm
  refine wpAny_call (make_map (f := f) I.kIn M.makes M.init (beq_iff_eq.mp M.fn) (codeAny_mono (F.run _ X.stack _ _ ⟨Value.ref (s.heap.objs.size + 1) :: us, []⟩ (Value.ref (s.heap.objs.size + 1) :: (us ++ ds)) _ _ E (hr.make C us [])
    (I2.env0.make C us []) (hb _ (Value.ref (s.heap.objs.size + 1) :: us) I2.kIn hl) r2 hq) fun r s' hq' => ?_))
  cases r with
  | error e => exact hx pins σ _ _ e s' I2 hq'
  | ok fl =>
    cases fl with
    | ret u =>
      obtain ⟨v, H', I3, rv, ev, q3⟩ := I2.after hq'
      subst ev
      exact ⟨rv, ⟨V.ref (s.heap.objs.size + 1), H', I3, rfl, q3⟩⟩
    | next => exact False.elim hq'
    | brk => exact False.elim hq'
    | cont => exact False.elim hq'
theorem pe_make (M : Mk X.K C f) (F : FnOk X.prog X.w X.K X.mg X.base CX k f fd ps sp) (hr : Room (k + 1) X.A) (hg : Gl X x) (hm : X.mg x = some (.ref C)) (hb : Binds X.K fd ps ds) (hd : Vals dvs ds) (hx : Passes CX X E)
    (ha : PA X (e :: es) t) (hdb : (x == ("__debug__" : Str)) = false := by decide) (he : starEach (e :: es) X.env = (false, eval e X.env) :: starEach es X.env := by rfl) (hpl : (backTo pos (starEach es X.env)).any (·.1) = false := by rfl) :
    PE X (.Call (.Name x p) (e :: es) [] pos) (tMake C sp dvs E t) := by
  intro pins s σ H Q I h
  refine wpAny_Call_Name_kw (ld_glob I hg hm ?_ hdb)
  refine PySem.W.callWith_K (h₀ := X.base) I.ok.mod.kin M.kp (thn (ha pos pins s σ H _ I h) fun us s1 ⟨vs, H1, I1, r, q⟩ => ⟨I1.kIn, ?_⟩) he hpl
  exact run_make M F hr hb hd hx I1 r q
end
section
variable {X : Cx} {CX : CXT} {k : Nat} {f C : Addr} {fd : FuncData} {ps ks : List Str} {sp : Sp} {E : XK} {x m : Str} {p pos apos kpos : Pos} {e o : Expr} {es : List Expr} {kws : List Keyword} {te ta : TE} {t tk : TA} {nm : Option Str}
variable {g : List Value → List Value → List Value} {gV : List V → List V → List V}
end
structure FnScope (N P : List Str) (sc : Scope) : Prop where
  kind : sc.kind = .function
  co : sc.isCoroutine = false
  gen : sc.isGenerator = false
  nd : N.Nodup
  pre : N.take P.length = P
  par : ∀ x ∈ P, sc.names.lookup x = some .local ∨ sc.names.lookup x = some .cell
  nofree : ∀ y ∈ sc.names, y.2 ≠ .free
theorem bindL_out {kindOf : Str → Option NameKind} {x : Str} : ∀ {binds : List (Str × Value)} {m : Str → Option Value}, (∀ v, (x, v) ∉ binds) → bindL kindOf binds m x = m x
  | [], _, _ => rfl
  | (n, v) :: r, m, h => by
    unfold bindL
    rw [bindL_out fun w hw => h w (List.mem_cons_of_mem _ hw)]
    split
    · have : x ≠ n := by rintro rfl; exact h v List.mem_cons_self
      simp [this]
    · rfl
theorem bindC_out {kindOf : Str → Option NameKind} {x : Str} : ∀ {binds : List (Str × Value)} {m : Str → Option Value}, (∀ v, (x, v) ∉ binds) → bindC kindOf binds m x = m x
  | [], _, _ => rfl
  | (n, v) :: r, m, h => by
    unfold bindC
    rw [bindC_out fun w hw => h w (List.mem_cons_of_mem _ hw)]
    split
    · rfl
    · have : x ≠ n := by rintro rfl; exact h v List.mem_cons_self
      simp [this]
theorem bindL_get {kindOf : Str → Option NameKind} {x : Str} {v : Value} : ∀ {P : List Str} {vs : List Value} {i : Nat} {m : Str → Option Value}, P.Nodup → P[i]? = some x → vs[i]? = some v → kindOf x = some .local →
    bindL kindOf (P.zip vs) m x = some v
  | [], _, _, _, _, h, _, _ => by simp at h
  | _ :: _, [], _, _, _, _, h, _ => by simp at h
  | p :: P, w :: vs, 0, m, nd, h1, h2, hk => by
    simp at h1 h2; subst h1; subst h2
    show bindL kindOf ((p, w) :: P.zip vs) m p = _
    unfold bindL
    rw [bindL_out fun v hv => (List.nodup_cons.mp nd).1 (List.of_mem_zip hv).1, if_pos hk]
    simp
  | p :: P, w :: vs, i + 1, m, nd, h1, h2, hk => by
    show bindL kindOf ((p, w) :: P.zip vs) m x = _
    unfold bindL
    exact bindL_get (i := i) (List.nodup_cons.mp nd).2 (by simpa using h1) (by simpa using h2) hk
theorem bindC_get {kindOf : Str → Option NameKind} {x : Str} {v : Value} : ∀ {P : List Str} {vs : List Value} {i : Nat} {m : Str → Option Value}, P.Nodup → P[i]? = some x → vs[i]? = some v → kindOf x ≠ some .local →
    bindC kindOf (P.zip vs) m x = some v
  | [], _, _, _, _, h, _, _ => by simp at h
  | _ :: _, [], _, _, _, _, h, _ => by simp at h
  | p :: P, w :: vs, 0, m, nd, h1, h2, hk => by
    simp at h1 h2; subst h1; subst h2
    show bindC kindOf ((p, w) :: P.zip vs) m p = _
    unfold bindC
    rw [bindC_out fun v hv => (List.nodup_cons.mp nd).1 (List.of_mem_zip hv).1, if_neg hk]
    simp
  | p :: P, w :: vs, i + 1, m, nd, h1, h2, hk => by
    show bindC kindOf ((p, w) :: P.zip vs) m x = _
    unfold bindC
    exact bindC_get (i := i) (List.nodup_cons.mp nd).2 (by simpa using h1) (by simpa using h2) hk
def start (N : List Str) (vs : List V) : St := vs.map some ++ List.replicate (N.length - vs.length) none
def cxOf (CX : CXT) (P : Program) (w : World) (K : PySem.W.Frag) (mg : Str → Option Value) (base : Heap) (N : List Str) (qual : Str) (scope : Scope) (f : Addr) (cd : Value) (A : Around) (outer : List Env) (s : Shared) (H : Hp) (E : XK) : Cx where
  prog := P
  w := w
  K := K
  mg := mg
  base := base
  A := A.deeper (envOfC qual scope s.heap.objs.size f cd)
  N := N
  s₀ := s
  H₀ := H
  env := envOfC qual scope s.heap.objs.size f cd
  outer := outer
  stack := envOfC qual scope s.heap.objs.size f cd :: outer
  ex := []
  calm := true
  fn := fun _ => true
  pn := []
  xe := fun e s' => wpAny (model P w) (A.deeper (envOfC qual scope s.heap.objs.size f cd)) (leaving (envOfC qual scope s.heap.objs.size f cd) e) (fun _ s'' => CX outer H s E e s'') (fun e' s'' => CX outer H s E e' s'') s'
theorem cell_has {sc : Scope} {n : Nat} {x : Str} (h : sc.names.lookup x = some .cell) : ∃ c, (cellsFrom n sc.names []).lookup x = some c := by
  have q := PySem.W.cellsFrom_some sc.names n [] (.inl h)
  exact Option.isSome_iff_exists.mp q
theorem inv_start {CX : CXT} {P : Program} {w : World} {K : PySem.W.Frag} {mg : Str → Option Value} {base : Heap} {N ps : List Str} {qual : Str} {scope : Scope} {f : Addr} {cd : Value} {A : Around} {outer : List Env} {s s1 : Shared} {H : Hp} {E : XK} {us : List Value} {vs : List V}
    (S : FnScope N ps scope) (hd : A.handled = none) (e0 : Env0 P w K mg base A outer s H) (hl : vs.length = ps.length) (r : Vals vs us)
    (x : InCallC s s.heap.objs.size (bindL (envOfC qual scope s.heap.objs.size f cd).kindOf (ps.zip us) fun _ => none) (cellsFrom (s.heap.objs.size + 1) scope.names []) (bindC (envOfC qual scope s.heap.objs.size f cd).kindOf (ps.zip us) fun _ => none) s1) :
    Inv (cxOf CX P w K mg base N qual scope f cd A outer s H E) [] (start N vs) H s1 := by
  have hpl : ps.length ≤ N.length := by have := congrArg List.length S.pre; rw [List.length_take] at this; omega
  obtain ⟨h1, tk, rfl, hk⟩ := x.done
  have noA : ∀ b : Addr, b ∉ (cxOf CX P w K mg base N qual scope f cd A outer s H E).ex := fun b z => absurd (show b ∈ ([] : List Addr) from z) (by simp)
  refine ⟨⟨e0.mod, S.kind, rfl, rfl, Nat.le_refl _, fun y z c h1 h2 => ?_, fun y hy => ?_, fun y c _ h => ?_, fun _ => hd, Around.frames_deeper e0.frames, .inr ⟨rfl, rfl⟩, fun b z => absurd z (noA b), e0.bs, e0.bsz, fun b _ _ => noA b, fun b z => absurd z (noA b), e0.funs, e0.frf⟩,
    rfl, e0.bare, Un.kept hk, ⟨_, x.toInCall.ns, fun i y v h1 h2 h3 => ?_⟩, fun y c h => ⟨_, x.cell y c h⟩, e0.hok.fresh (Nat.le_refl _), fun y c h => ?_, fun p hp => absurd (show p ∈ ([] : List (Addr × Obj)) from hp) (by simp), e0.hok.kept hk, ?_⟩
  · exact name_of_addr x.apart (PySem.mem_of_lookup h1) (PySem.mem_of_lookup h2)
  · have hy : scope.names.lookup y = some .cell ∨ scope.names.lookup y = some .free := hy
    rcases hy with hy | hy
    · exact cell_has hy
    · exact absurd rfl (S.nofree _ (PySem.mem_of_lookup hy))
  · exact Nat.le_of_lt (x.above y c (PySem.mem_of_lookup h))
  · have hi : i < vs.length := by
      unfold start at h2
      by_cases hi : i < vs.length
      · exact hi
      · rw [List.getElem?_append_right (by simpa using hi)] at h2
        rw [List.getElem?_replicate] at h2
        split at h2 <;> cases h2
    have ha : vs[i]? = some v := by
      unfold start at h2
      rw [List.getElem?_append_left (by simpa using hi), List.getElem?_map] at h2
      cases e : vs[i]? with
      | none => rw [e] at h2; cases h2
      | some a => rw [e] at h2; cases h2; rfl
    obtain ⟨u, hu, rv⟩ := r.get ha
    have hp : ps[i]? = some y := by
      rw [← S.pre, List.getElem?_take_of_lt (by omega)]; exact h1
    have ndP : ps.Nodup := by rw [← S.pre]; exact S.nd.sublist (List.take_sublist _ _)
    refine ⟨u, rv, ?_⟩
    rcases S.par y (List.mem_of_getElem? hp) with k | k
    · exact .inl ⟨k, bindL_get ndP hp hu k⟩
    · obtain ⟨c, e⟩ := cell_has (n := s.heap.objs.size + 1) k
      refine .inr ⟨.inl k, c, e, ?_⟩
      have q := x.cell y c e
      rw [bindC_get ndP hp hu (by show scope.names.lookup y ≠ _; rw [k]; decide)] at q
      exact q
  · exact e0.hok.fresh (Nat.le_of_lt (x.above y c (PySem.mem_of_lookup h)))
  · unfold start
    show _ = N.length
    rw [List.length_append, List.length_map, List.length_replicate]
    omega
theorem fn_of {CX : CXT} {P : Program} {w : World} {K : PySem.W.Frag} {mg : Str → Option Value} {base : Heap} {k : Nat} {f : Addr} {name qual : Str} {params : Arguments} {body : List Stmt} {scope : Scope} {dV kV doc pm cdv ct oc : Value} {an od : Option Addr}
    {osl : Array (Option Value)} {N ps : List Str} {sp : Sp} (lk : K.lookup f = some ⟨oc, od, .func (PySem.W.fnOf name qual params body scope dV kV doc pm an cdv ct), osl⟩) (hcd : PySem.W.codeIn K cdv qual = true) (S : FnScope N ps scope)
    (len : ∀ vs H Q E, sp vs H Q E → vs.length = ps.length)
    (hbody : ∀ (A : Around) (outer : List Env) (s : Shared) (H : Hp) (vs : List V) (Q : VK) (E : XK), Room k (A.deeper (envOfC qual scope s.heap.objs.size f cdv)) → sp vs H Q E →
      ∃ t, PSs (cxOf CX P w K mg base N qual scope f cdv A outer s H E) body t ∧ t { nx := fun _ H' => Q .non H', rt := Q } (start N vs) H) :
    FnOk P w K mg base CX (k + 1) f (PySem.W.fnOf name qual params body scope dV kV doc pm an cdv ct) ps sp := by
  refine ⟨len, fun A outer s H args us vs Q E hr e0 hb r hsp => ?_⟩
  have hl := len _ _ _ _ hsp
  have KX : K.In s.heap := e0.mod.kin.keeps fun b o e => (e0.bs b o e).1
  have lim : s.heap.NoLimit := e0.mod.nolimit.keeps fun b o e => (e0.bs b o e).1
  have hkind : ∀ y ∈ ps.zip us, scope.names.lookup y.1 = some .local ∨ (scope.names.lookup y.1 = some .cell ∧ ((cellsFrom (s.heap.objs.size + 1) scope.names []).lookup y.1).isSome = true) := fun ⟨n, v⟩ hy => by
    rcases S.par n (List.of_mem_zip hy).1 with q | q
    · exact .inl q
    · exact .inr ⟨q, PySem.W.cellsFrom_some _ _ _ (.inl q)⟩
  refine codeAny_call_function hr.depth (KX _ _ lk) rfl S.co S.gen rfl (PySem.W.codeRec_of KX hcd) (hb _ _ _ _ ?_)
  refine wpAny_newFunctionEnv_cells S.kind hkind fun env he s1 x => ?_
  subst he
  refine ⟨lim.keeps x.toInCall.keep, codeAny_func ?_⟩
  obtain ⟨t, ht, hq⟩ := hbody A outer s H vs Q E (hr.deeper _) hsp
  have I : Inv (cxOf CX P w K mg base N qual scope f cdv A outer s H E) [] (start N vs) H s1 := inv_start S hr.hd e0 hl r x
  refine wpAny_mono (ht [] s1 (start N vs) H _ I hq) (fun fl s' hs => ?_) fun e s' hs => hs
  have fin : ∀ {σ' : St} {H' : Hp} {v : V} {u : Value}, Inv (cxOf CX P w K mg base N qual scope f cdv A outer s H E) [] σ' H' s' → RelV v u → Q v H' → CE outer P w H s Q u s' :=
    fun {σ' H' v u} J rv q => ⟨v, H', J.os, J.bare, J.base, J.hok, rv, q⟩
  cases fl with
  | ret u =>
    obtain ⟨v, σ', H', J, rv, q⟩ := hs
    exact fin J rv q
  | next =>
    obtain ⟨σ', H', J, q⟩ := hs
    exact fin (v := V.non) (u := Value.none) J rfl q
  | brk =>
    obtain ⟨_, _, _, q⟩ := hs
    exact False.elim q
  | cont =>
    obtain ⟨_, _, _, q⟩ := hs
    exact False.elim q
end L2
namespace L2
open PySem PySem.Spec PyProof.Rows
section
variable {X : Cx} {x : Str} {p pos : Pos} {e : Expr} {es : List Expr} {t : TA} {id T : String} {r : List V → Hp → VK → Prop}
def tCB (r : List V → Hp → VK → Prop) (t : TA) : TE := fun σ H Q => t σ H fun vs H1 => r vs H1 Q
theorem pe_callB (hc : CallR X (.builtin id) r) (hg : Gl X x) (hm : X.mg x = none) (hv : bootBuiltins x = some (.builtin id)) (ha : PA X (e :: es) t) (hn : x ≠ "__name__" := by decide) (hdb : (x == ("__debug__" : Str)) = false := by decide)
    (he : starEach (e :: es) X.env = (false, eval e X.env) :: starEach es X.env := by rfl) (hpl : (backTo pos (starEach es X.env)).any (·.1) = false := by rfl) : PE X (.Call (.Name x p) (e :: es) [] pos) (tCB r t) := by
  intro pins s σ H Q I h
  refine wpAny_Call_Name_kw (ld_blt I hg hm hv ?_ hn hdb)
  exact PyProof.Rows.callWith_builtin1 (thn (ha pos pins s σ H _ I h) fun us s1 ⟨vs, H1, I1, r1, q1⟩ => hc pins s1 σ H1 vs us Q I1 r1 q1) he hpl
theorem pe_callTy (hc : CallR X (.type T) r) (hg : Gl X x) (hm : X.mg x = none) (hv : bootBuiltins x = some (.type T)) (ha : PA X (e :: es) t) (hn : x ≠ "__name__" := by decide) (hdb : (x == ("__debug__" : Str)) = false := by decide)
    (he : starEach (e :: es) X.env = (false, eval e X.env) :: starEach es X.env := by rfl) (hpl : (backTo pos (starEach es X.env)).any (·.1) = false := by rfl) : PE X (.Call (.Name x p) (e :: es) [] pos) (tCB r t) := by
  intro pins s σ H Q I h
  refine wpAny_Call_Name_kw (ld_blt I hg hm hv ?_ hn hdb)
  exact PyProof.Rows.callWith_type1 (thn (ha pos pins s σ H _ I h) fun us s1 ⟨vs, H1, I1, r1, q1⟩ => hc pins s1 σ H1 vs us Q I1 r1 q1) he hpl
end
end L2
namespace L2
open PySem PySem.Spec PyProof.Rows
section
variable {κ : Type} [DecidableEq κ]
def valV (kvs : List (κ × V)) (k : κ) : Option V := (kvs.find? fun kv => decide (kv.1 = k)).map (·.2)
def putK (kvs : List (κ × V)) (k : κ) (v : V) : List (κ × V) :=
  if (kvs.any fun kv => decide (kv.1 = k)) = true then kvs.map (fun kv => if kv.1 = k then (kv.1, v) else kv) else kvs ++ [(k, v)]
def dropK (kvs : List (κ × V)) (k : κ) : List (κ × V) := kvs.filter fun kv => decide (kv.1 ≠ k)
theorem valV_pos {p : κ × V} {r : List (κ × V)} {k : κ} (e : p.1 = k) : valV (p :: r) k = some p.2 := by simp [valV, List.find?_cons, e]
theorem valV_neg {p : κ × V} {r : List (κ × V)} {k : κ} (e : ¬ p.1 = k) : valV (p :: r) k = valV r k := by simp [valV, List.find?_cons, e]
theorem valV_any (k : κ) : ∀ kvs : List (κ × V), (kvs.any fun kv => decide (kv.1 = k)) = (valV kvs k).isSome
  | [] => rfl
  | p :: r => by
    rw [List.any_cons]
    by_cases e : p.1 = k
    · simp only [valV_pos e, decide_eq_true e, Bool.true_or, Option.isSome_some]
    · rw [valV_neg e, decide_eq_false e, Bool.false_or]; exact valV_any k r
theorem valV_map (k j : κ) (y : V) : ∀ kvs : List (κ × V), valV (kvs.map fun kv => if kv.1 = k then (kv.1, y) else kv) j = (valV kvs j).map fun x => if j = k then y else x
  | [] => rfl
  | p :: r => by
    have ih := valV_map k j y r
    rw [List.map_cons]
    by_cases h : p.1 = k
    · rw [if_pos h]
      by_cases e : p.1 = j
      · rw [valV_pos (p := (p.1, y)) e, valV_pos e, Option.map_some, if_pos (e.symm.trans h)]
      · rw [valV_neg (p := (p.1, y)) e, valV_neg e, ih]
    · rw [if_neg h]
      by_cases e : p.1 = j
      · rw [valV_pos (p := p) e, valV_pos e, Option.map_some, if_neg (fun z => h (e.trans z))]
      · rw [valV_neg (p := p) e, valV_neg e, ih]
theorem valV_snoc (k j : κ) (y : V) : ∀ kvs : List (κ × V), valV kvs k = none → valV (kvs ++ [(k, y)]) j = if j = k then some y else valV kvs j
  | [], _ => by
    by_cases e : k = j
    · rw [if_pos e.symm]; exact valV_pos (p := (k, y)) e
    · rw [if_neg (fun z => e z.symm)]; exact valV_neg (p := (k, y)) e
  | p :: r, hn => by
    rw [List.cons_append]
    have hk : ¬ p.1 = k := fun z => by rw [valV_pos z] at hn; cases hn
    rw [valV_neg hk] at hn
    have ih := valV_snoc k j y r hn
    by_cases e : p.1 = j
    · rw [valV_pos e, valV_pos e, if_neg (fun z => hk (e.trans z))]
    · rw [valV_neg e, valV_neg e, ih]
theorem valV_put (kvs : List (κ × V)) (k j : κ) (y : V) : valV (putK kvs k y) j = if j = k then some y else valV kvs j := by
  unfold putK
  by_cases a : (kvs.any fun kv => decide (kv.1 = k)) = true
  · rw [if_pos a, valV_map]
    rw [valV_any] at a
    by_cases e : j = k
    · obtain ⟨x, hx⟩ := Option.isSome_iff_exists.mp a
      rw [if_pos e, e, hx, Option.map_some, if_pos rfl]
    · rw [if_neg e]
      cases valV kvs j with
      | none => rfl
      | some x => rw [Option.map_some, if_neg e]
  · rw [if_neg a]
    refine valV_snoc k j y kvs ?_
    rw [valV_any] at a
    cases q : valV kvs k with
    | none => rfl
    | some x => rw [q] at a; exact (a rfl).elim
theorem length_putK (kvs : List (κ × V)) (k : κ) (v : V) : (putK kvs k v).length ≤ kvs.length + 1 := by
  unfold putK
  split
  · rw [List.length_map]; omega
  · rw [List.length_append, List.length_cons, List.length_nil]; omega
theorem RelO.isSome_eq {o : Option V} {u : Option Value} (r : RelO o u) : o.isSome = u.isSome := by
  cases o with
  | none => cases u with
    | none => rfl
    | some _ => exact (show False from r).elim
  | some _ => cases u with
    | none => exact (show False from r).elim
    | some _ => rfl
theorem RelO.getD {o : Option V} {u : Option Value} {d : V} {d' : Value} (r : RelO o u) (rd : RelV d d') : RelV (o.getD d) (u.getD d') := by
  cases o with
  | none => cases u with
    | none => exact rd
    | some _ => exact (show False from r).elim
  | some _ => cases u with
    | none => exact (show False from r).elim
    | some _ => exact r
theorem KV.val {kvs : List (κ × V)} {vs : List (κ × Value)} (r : KV kvs vs) (k : κ) : RelO (valV kvs k) (valueAt vs k) := by
  unfold KV at r
  induction r with
  | nil => exact True.intro
  | @cons p q ps qs h t ih =>
    obtain ⟨h1, h2⟩ := h
    by_cases e : p.1 = k
    · have e' : q.1 = k := h1.symm.trans e
      have b : valueAt (q :: qs) k = some q.2 := by simp [valueAt, List.find?_cons, e']
      rw [valV_pos e, b]; exact h2
    · have e' : ¬ q.1 = k := fun z => e (h1.trans z)
      have b : valueAt (q :: qs) k = valueAt qs k := by simp [valueAt, List.find?_cons, e']
      rw [valV_neg e, b]; exact ih
theorem KV.any {kvs : List (κ × V)} {vs : List (κ × Value)} (r : KV kvs vs) (k : κ) : (kvs.any fun kv => decide (kv.1 = k)) = vs.any fun kv => decide (kv.1 = k) := by
  unfold KV at r
  induction r with
  | nil => rfl
  | cons h t ih => rw [List.any_cons, List.any_cons, ih, h.1]
theorem KV.repl {kvs : List (κ × V)} {vs : List (κ × Value)} (r : KV kvs vs) (k : κ) {y : V} {u : Value} (ry : RelV y u) :
    KV (kvs.map fun kv => if kv.1 = k then (kv.1, y) else kv) (vs.map fun kv => if kv.1 = k then (kv.1, u) else kv) := by
  unfold KV at r ⊢
  induction r with
  | nil => exact .nil
  | @cons p q ps qs h t ih =>
    rw [List.map_cons, List.map_cons]
    refine .cons ?_ ih
    obtain ⟨h1, h2⟩ := h
    by_cases e : p.1 = k
    · rw [if_pos e, if_pos (h1.symm.trans e)]; exact ⟨h1, ry⟩
    · rw [if_neg e, if_neg (fun z => e (h1.trans z))]; exact ⟨h1, h2⟩
theorem KV.put {kvs : List (κ × V)} {vs : List (κ × Value)} (r : KV kvs vs) (k : κ) {y : V} {u : Value} (ry : RelV y u) : KV (putK kvs k y) (stored vs k u) := by
  unfold putK stored
  rw [r.any k]
  by_cases e : (vs.any fun kv => decide (kv.1 = k)) = true
  · rw [if_pos e, if_pos e]; exact r.repl k ry
  · rw [if_neg e, if_neg e]; exact Paired.snoc r ⟨rfl, ry⟩
theorem KV.drop {kvs : List (κ × V)} {vs : List (κ × Value)} (r : KV kvs vs) (k : κ) : KV (dropK kvs k) (without vs k) := by
  unfold KV at r ⊢
  unfold dropK without
  induction r with
  | nil => exact .nil
  | @cons p q ps qs h t ih =>
    obtain ⟨h1, h2⟩ := h
    rw [List.filter_cons, List.filter_cons]
    by_cases e : p.1 = k
    · have a : ¬ decide (p.1 ≠ k) = true := by simp [e]
      have b : ¬ decide (q.1 ≠ k) = true := by simp [h1.symm.trans e]
      rw [if_neg a, if_neg b]; exact ih
    · have e' : ¬ q.1 = k := fun z => e (h1.trans z)
      have a : decide (p.1 ≠ k) = true := by simp [e]
      have b : decide (q.1 ≠ k) = true := by simp [e']
      rw [if_pos a, if_pos b]; exact .cons ⟨h1, h2⟩ ih
theorem KV.length {kvs : List (κ × V)} {vs : List (κ × Value)} (r : KV kvs vs) : kvs.length = vs.length := Paired.length r
theorem dropK_le (kvs : List (κ × V)) (k : κ) : (dropK kvs k).length ≤ kvs.length := List.length_filter_le _ _
end
theorem kV_is {P : Program} {w : World} {k : Key} {u : Value} (r : RelV (kV k) u) : (mixKind P w).is k u = true := by
  cases k with
  | inl i => obtain ⟨t, e⟩ := (show ∃ t, u = Value.int i t from r); subst e; exact mixKind_int P w i t
  | inr x => obtain ⟨t, e⟩ := (show ∃ t, u = Value.str x t from r); subst e; exact mixKind_str P w x t
theorem items_are {P : Program} {w : World} : ∀ {ks : List Key} {us : List Value}, Vals (ks.map kV) us → ItemsAre (mixKind P w) ks us
  | [], _, r => by rw [List.map_nil] at r; cases r; exact .nil
  | k :: ks, _, r => by
    rw [List.map_cons] at r
    cases r with
    | cons h t => exact .cons (kV_is h) (items_are t)
abbrev KT (H : Hp) : List (List Key × V) → List (List Key × Addr × Value) → Prop := Paired fun p q => p.1 = q.1 ∧ H q.2.1 = some (.tup (p.1.map kV)) ∧ RelV p.2 q.2.2
theorem KT.val {H : Hp} {kvs : List (List Key × V)} {xs : List (List Key × Addr × Value)} (r : KT H kvs xs) (k : List Key) : RelO (valV kvs k) ((atKey xs k).map (·.2)) := by
  induction r with
  | nil => exact True.intro
  | @cons p q ps qs h t ih =>
    obtain ⟨h1, _, h2⟩ := h
    by_cases e : p.1 = k
    · have e' : q.1 = k := h1.symm.trans e
      have b : atKey (q :: qs) k = some q.2 := by simp [atKey, List.find?_cons, e']
      rw [valV_pos e, b]; exact h2
    · have e' : ¬ q.1 = k := fun z => e (h1.trans z)
      have b : atKey (q :: qs) k = atKey qs k := by simp [atKey, List.find?_cons, e']
      rw [valV_neg e, b]; exact ih
theorem KT.repl {H : Hp} {kvs : List (List Key × V)} {xs : List (List Key × Addr × Value)} (r : KT H kvs xs) (k : List Key) {y : V} {u : Value} (ry : RelV y u) :
    KT H (kvs.map fun kv => if kv.1 = k then (kv.1, y) else kv) (xs.map (putAt k u)) := by
  induction r with
  | nil => exact .nil
  | @cons p q ps qs h t ih =>
    rw [List.map_cons, List.map_cons]
    refine .cons ?_ ih
    obtain ⟨h1, h2, h3⟩ := h
    unfold putAt
    by_cases e : p.1 = k
    · rw [if_pos e, if_pos (h1.symm.trans e)]; exact ⟨h1, h2, ry⟩
    · rw [if_neg e, if_neg (fun z => e (h1.trans z))]; exact ⟨h1, h2, h3⟩
theorem KT.put {H : Hp} {kvs : List (List Key × V)} {xs : List (List Key × Addr × Value)} (r : KT H kvs xs) (k : List Key) {b : Addr} {y : V} {u : Value} (hb : H b = some (.tup (k.map kV))) (ry : RelV y u) :
    KT H (putK kvs k y) (storedH xs k b u) := by
  have e : (kvs.any fun kv => decide (kv.1 = k)) = (atKey xs k).isSome := by
    rw [valV_any, (r.val k).isSome_eq, Option.isSome_map]
  unfold putK storedH
  rw [e]
  by_cases q : (atKey xs k).isSome = true
  · rw [if_pos q, if_pos q]; exact r.repl k ry
  · rw [if_neg q, if_neg q]; exact Paired.snoc r ⟨rfl, hb, ry⟩
theorem KT.keeps {H H' : Hp} {kvs : List (List Key × V)} {xs : List (List Key × Addr × Value)} (r : KT H kvs xs) (ht : ∀ b ys, H b = some (.tup ys) → H' b = some (.tup ys)) : KT H' kvs xs :=
  Paired.mapP r fun _ _ z => ⟨z.1, ht _ _ z.2.1, z.2.2⟩
section
variable {P : Program} {w : World} {H : Hp} {h : Heap} {a : Addr}
theorem rd_of {u : HO} (ok : HOk P w H h) (e : Rd H a u) : ObjOk P w H h a u := e.ok ok
theorem dk_rd {kvs : List (Key × V)} (ok : HOk P w H h) (e : Rd H a (.dK kvs)) : kvs.length ≤ sizeLine ∧ (a == sysModules) = false ∧ ∃ vs, KV kvs vs ∧ h.DictOf (mixKind P w) a vs :=
  show ObjOk P w H h a (.dK kvs) from rd_of ok e
theorem dk_of {kvs : List (Key × V)} (ok : HOk P w H h) (e : H a = some (.dK kvs)) : kvs.length ≤ sizeLine ∧ (a == sysModules) = false ∧ ∃ vs, KV kvs vs ∧ h.DictOf (mixKind P w) a vs := dk_rd ok (.inl e)
theorem key_of {ks : List Key} (ok : HOk P w H h) (e : H a = some (.tup (ks.map kV))) : (tupleKind (mixKind P w)).is h ks a := by
  obtain ⟨_, its, r, o, h1, h2, n, h3⟩ := (show ObjOk P w H h a (.tup (ks.map kV)) from ok a _ e)
  exact ⟨o, its.toArray, n, h1, h2, h3, by simpa using items_are r⟩
theorem dt_rd {kvs : List (List Key × V)} (ok : HOk P w H h) (e : Rd H a (.dT kvs)) : kvs.length ≤ sizeLine ∧ (a == sysModules) = false ∧
    ∃ xs, KT H kvs xs ∧ h.DictOfH (tupleKind (mixKind P w)) a xs := by
  obtain ⟨z, y, xs, r, o, es, ep, h1, h2, h3, h4, h5⟩ := (show ObjOk P w H h a (.dT kvs) from rd_of ok e)
  refine ⟨z, y, xs, r, o, es, ep, h1, h2, h3, h4, fun x hx => ?_, h5⟩
  have all : ∀ {l : List (List Key × V)} {m : List (List Key × Addr × Value)}, KT H l m → ∀ x ∈ m, (tupleKind (mixKind P w)).is h x.1 x.2.1 := by
    intro l m q
    induction q with
    | nil => intro x hx; exact nomatch hx
    | @cons p q ps qs hq t ih =>
      intro x hx
      rcases List.mem_cons.mp hx with e | hx
      · subst e
        exact key_of ok (by rw [← hq.1]; exact hq.2.1)
      · exact ih x hx
  exact all r x hx
theorem dt_of {kvs : List (List Key × V)} (ok : HOk P w H h) (e : H a = some (.dT kvs)) : kvs.length ≤ sizeLine ∧ (a == sysModules) = false ∧
    ∃ xs, KT H kvs xs ∧ h.DictOfH (tupleKind (mixKind P w)) a xs := dt_rd ok (.inl e)
end
def DGet (H : Hp) (a : Addr) (y : V) (r : Option V) : Prop :=
  (∃ kvs k, Rd H a (.dK kvs) ∧ y = kV k ∧ r = valV kvs k) ∨ ∃ kvs k b, Rd H a (.dT kvs) ∧ y = .ref b ∧ H b = some (.tup (k.map kV)) ∧ r = valV kvs k
def DPut (H : Hp) (a : Addr) (y v : V) (H' : Hp) : Prop :=
  (∃ kvs k, H a = some (.dK kvs) ∧ y = kV k ∧ kvs.length < sizeLine ∧ H' = upd H a (.dK (putK kvs k v))) ∨
  ∃ kvs k b, H a = some (.dT kvs) ∧ y = .ref b ∧ H b = some (.tup (k.map kV)) ∧ kvs.length < sizeLine ∧ H' = upd H a (.dT (putK kvs k v))
theorem DGet.k {H : Hp} {a : Addr} {kvs : List (Key × V)} {k : Key} (e : H a = some (.dK kvs)) : DGet H a (kV k) (valV kvs k) := .inl ⟨kvs, k, .inl e, rfl, rfl⟩
theorem DPut.k {H : Hp} {a : Addr} {kvs : List (Key × V)} {k : Key} {v : V} (e : H a = some (.dK kvs)) (hl : kvs.length < sizeLine) : DPut H a (kV k) v (upd H a (.dK (putK kvs k v))) := .inl ⟨kvs, k, e, rfl, hl, rfl⟩
section
variable {X : Cx} {pins : List (Addr × Obj)} {σ : St} {H : Hp} {s : Shared} {a : Addr} {y v : V} {u r : Value} {o : Option V} {A : Around} {E : Value → Shared → Prop}
theorem Inv.big (I : Inv X pins σ H s) : sysModules < s.heap.objs.size := by
  have h : mainGlobals < s.heap.objs.size := (I.mod.glob.keeps I.bk).lt
  exact Nat.lt_trans (by decide) h
theorem d_in {Q : Value → Shared → Prop} (hu : A.units + 1 < cLine) (I : Inv X pins σ H s) (g : DGet H a y o) (ry : RelV y u) (h : ∀ s', Inv X pins σ H s' → Q (.bool o.isSome) s') :
    wpAny (model X.prog X.w) A (compareOp .In u (.ref a)) Q E s := by
  rcases g with ⟨kvs, k, e, ey, l⟩ | ⟨kvs, k, b, e, ey, eb, l⟩
  · subst ey
    obtain ⟨z, hd, vs, rel, dd⟩ := dk_rd I.hok e
    refine wpAny_in_of (kV_is ry) hd dd.mapOf ?_
    rw [← (rel.val k).isSome_eq, ← l]
    exact h _ (I.tok _)
  · subst ey
    cases (show u = Value.ref b from ry)
    obtain ⟨z, hd, xs, rel, dd⟩ := dt_rd I.hok e
    refine wpAny_in_heap (tupleKind_room_in1 hu) (key_of I.hok eb) hd dd ?_
    have q := (rel.val k).isSome_eq
    rw [Option.isSome_map] at q
    rw [← q, ← l]
    exact h _ (I.tok _)
theorem d_notIn {Q : Value → Shared → Prop} (hu : A.units + 1 < cLine) (I : Inv X pins σ H s) (g : DGet H a y o) (ry : RelV y u) (h : ∀ s', Inv X pins σ H s' → Q (.bool (!o.isSome)) s') :
    wpAny (model X.prog X.w) A (compareOp .NotIn u (.ref a)) Q E s := by
  rcases g with ⟨kvs, k, e, ey, l⟩ | ⟨kvs, k, b, e, ey, eb, l⟩
  · subst ey
    obtain ⟨z, hd, vs, rel, dd⟩ := dk_rd I.hok e
    refine wpAny_notIn_of (kV_is ry) hd dd.mapOf ?_
    rw [← (rel.val k).isSome_eq, ← l]
    exact h _ (I.tok _)
  · subst ey
    cases (show u = Value.ref b from ry)
    obtain ⟨z, hd, xs, rel, dd⟩ := dt_rd I.hok e
    refine wpAny_notIn_heap (tupleKind_room_in1 hu) (key_of I.hok eb) hd dd ?_
    have q := (rel.val k).isSome_eq
    rw [Option.isSome_map] at q
    rw [← q, ← l]
    exact h _ (I.tok _)
theorem d_write {h' : Heap} {t' : Nat} {ob : HO} (I : Inv X pins σ H s) (mu : Mut (H a)) (hs : Heap.SameBut a s.heap h') (he : ∃ q, h'.get? a = some q) (new : ObjOk X.prog X.w (upd H a ob) h' a ob) :
    Inv X pins σ (upd H a ob) { s with heap := h', toks := t' } :=
  I.write (x := a) (e := a) mu (.inl rfl) (fun b q hb z => (hs.2 b hb).trans z) he new
theorem dk_new {P : Program} {w : World} {H' : Hp} {h' : Heap} {kvs : List (Key × V)} {vs : List (Key × Value)} (z : kvs.length ≤ sizeLine) (hd : (a == sysModules) = false) (rel : KV kvs vs) (dd : h'.DictOf (mixKind P w) a vs) :
    ObjOk P w H' h' a (.dK kvs) := ⟨z, hd, vs, rel, dd⟩
theorem d_setItem {H' : Hp} {Q : Unit → Shared → Prop} (hu : A.units + 1 < cLine) (I : Inv X pins σ H s) (g : DPut H a y v H') (ry : RelV y u) (rv : RelV v r) (h : ∀ s', Inv X pins σ H' s' → Q () s') :
    wpAny (model X.prog X.w) A (setItem (.ref a) u r) Q E s := by
  rcases g with ⟨kvs, k, e, ey, l, eH⟩ | ⟨kvs, k, b, e, ey, eb, l, eH⟩
  · subst ey eH
    obtain ⟨z, hd, vs, rel, dd⟩ := dk_of I.hok e
    have hz : vs.length ≤ sizeLine := by rw [← rel.length]; exact z
    have hl : (putK kvs k v).length ≤ sizeLine := by have := length_putK kvs k v; omega
    refine wpAny_setItem_pairs (hsz := hz) (kV_is ry) dd fun h' dd' hs => h _ ?_
    have he : ∃ q, h'.get? a = some q := let ⟨q, _, _, hq, _⟩ := dd'; ⟨q, hq⟩
    exact d_write I (by rw [e]; exact True.intro) hs he (dk_new hl hd (rel.put k rv) dd')
  · subst ey eH
    cases (show u = Value.ref b from ry)
    obtain ⟨z, hd, xs, rel, dd⟩ := dt_of I.hok e
    have hz : xs.length ≤ sizeLine := by rw [← Paired.length rel]; exact z
    have hl : (putK kvs k v).length ≤ sizeLine := by have := length_putK kvs k v; omega
    refine wpAny_setItem_heap (hsz := hz) (tupleKind_room_in1 hu) (key_of I.hok eb) dd fun h' dd' hs => h _ ?_
    obtain ⟨q, es, ep, hq, h2, h3, h4, _, h5⟩ := dd'
    refine d_write I (by rw [e]; exact True.intro) hs ⟨q, hq⟩ ⟨hl, hd, _, (rel.put k eb rv).keeps fun c ys ec => ?_, q, es, ep, hq, h2, h3, h4, h5⟩
    rw [upd_ne (ne_of ec e (fun z => nomatch z))]
    exact ec
end
section
variable {X : Cx} {pins : List (Addr × Obj)} {σ : St} {H : Hp} {s : Shared} {a : Addr} {kvs : List (Key × V)} {k : Key} {u : Value} {A : Around} {E : Value → Shared → Prop}
theorem d_delItem {Q : Unit → Shared → Prop} (I : Inv X pins σ H s) (e : H a = some (.dK kvs)) (ry : RelV (kV k) u) (l : (valV kvs k).isSome = true) (h : ∀ s', Inv X pins σ (upd H a (.dK (dropK kvs k))) s' → Q () s') :
    wpAny (model X.prog X.w) A (delItem (.ref a) u) Q E s := by
  obtain ⟨z, hd, vs, rel, dd⟩ := dk_of I.hok e
  refine wpAny_delItem_slot dd.typeIs (by decide) PySem.F.slot_dict_delitem
    (call_meetsIn PySem.F.slot_dict_delitem dd.typeIs PySem.F.entry_dict_delitem (PySem.F.args_dict_delitem_2 _ _) (meets_dict_delitem_pairs (mixKind X.prog X.w) a (kV_is ry)) ⟨vs, dd, by rw [← rel.length]; exact z, by rw [← (rel.val k).isSome_eq]; exact l, fun h' dd' hs => h _ ?_⟩)
  have he : ∃ q, h'.get? a = some q := let ⟨q, _, _, hq, _⟩ := dd'; ⟨q, hq⟩
  exact d_write I (by rw [e]; exact True.intro) hs he (dk_new (Nat.le_trans (dropK_le kvs k) z) hd (rel.drop k) dd')
end
def sDPut (td ty tv : TE) : TS := fun D σ H => tv σ H fun v H1 => td σ H1 fun x H2 => ty σ H2 fun y H3 => ∃ a H4, x = .ref a ∧ DPut H3 a y v H4 ∧ D.nx σ H4
def sDDel (td ty : TE) : TS := fun D σ H => td σ H fun x H1 => ty σ H1 fun y H2 => ∃ a kvs k, x = .ref a ∧ H2 a = some (.dK kvs) ∧ y = kV k ∧ (valV kvs k).isSome = true ∧ D.nx σ (upd H2 a (.dK (dropK kvs k)))
section
variable {X : Cx} {o i e value : Expr} {pos pos' tpos : Pos} {td ty tv : TE}
theorem ps_dput (hu : X.A.units + 1 < cLine) (ho : PE X o td) (hi : PE X i ty) (hv : PE X value tv) (hs : swapsWith value (some (.Subscript o i pos')) pos.line X.env = pure false) :
    PS X (.Assign [.Subscript o i pos'] value pos) (sDPut td ty tv) := by
  intro pins s σ H D I h
  refine wpAny_Assign_Subscript (thn (hv pins s σ H _ I h) fun r s1 ⟨v, H1, I1, rv, q1⟩ => thn (ho pins s1 σ H1 _ I1 q1) fun u s2 ⟨x, H2, I2, rx, q2⟩ => thn (hi pins s2 σ H2 _ I2 q2) fun iv s3 ⟨y, H3, I3, ry, a, H4, ex, g, q3⟩ => ?_) hs
  subst ex
  obtain rfl : u = Value.ref a := rx
  exact d_setItem hu I3 g ry rv fun s4 I4 => ⟨σ, H4, I4, q3⟩
theorem ps_ddel (ho : PE X o td) (hi : PE X i ty) : PS X (.Delete [.Subscript o i tpos] pos) (sDDel td ty) := by
  intro pins s σ H D I h
  refine wpAny_Delete (wpAny_deleteEach_cons (wpAny_delete_Subscript (thn (ho pins s σ H _ I h) fun u s1 ⟨x, H1, I1, rx, q1⟩ => thn (hi pins s1 σ H1 _ I1 q1) fun iv s2 ⟨y, H2, I2, ry, a, kvs, k, ex, e, ey, l, q2⟩ => ?_)))
  subst ex ey
  obtain rfl : u = Value.ref a := rx
  exact d_delItem I2 e ry l fun s3 I3 => wpAny_deleteEach_nil ⟨σ, _, I3, q2⟩
end
theorem dk_empty {P : Program} {w : World} {H : Hp} (h : Heap) (hb : sysModules < h.objs.size) : ObjOk P w H (h.push { cls := .type "dict", data := .dict #[] }) h.objs.size (.dK []) :=
  ⟨Nat.zero_le _, beq_eq_false_iff_ne.mpr (Ne.symm (Nat.ne_of_lt hb)), [], .nil, Heap.DictOf.new h⟩
def tDNewK : TE := fun _ H Q => ∀ p, H p = none → Q (.ref p) (upd H p (.dK []))
section
variable {X : Cx} {pos : Pos}
theorem pe_dnewK : PE X (.Dict [] [] pos) tDNewK := fun pins s σ H Q I h =>
  wpAny_Dict_empty ⟨.ref s.heap.objs.size, _, I.laid (a := s.heap.objs.size) (o := .dK []) (t' := s.toks) (fun _ _ q => Heap.get?_push_of_some _ q) (Nat.le_refl _) (dk_empty s.heap I.big), rfl, h _ (I.hok.fresh (Nat.le_refl _))⟩
end
def tPairs : List (TE × TE) → St → Hp → (List (V × V) → Hp → Prop) → Prop
  | [], _, H, Q => Q [] H
  | (tk, tv) :: r, σ, H, Q => tk σ H fun x H1 => tv σ H1 fun y H2 => tPairs r σ H2 fun ps H3 => Q ((x, y) :: ps) H3
abbrev VV : List (V × V) → List (Value × Value) → Prop := Paired fun p q => RelV p.1 q.1 ∧ RelV p.2 q.2
def PPs (X : Cx) (pos : Pos) (keys : List (Option Expr)) (values : List Expr) (trs : List (TE × TE)) : Prop :=
  ∀ (pins : List (Addr × Obj)) (s : Shared) (σ : St) (H : Hp) (Q : List (V × V) → Hp → Prop), Inv X pins σ H s → tPairs trs σ H Q →
    wpAny (model X.prog X.w) X.A (evalPairs (pairTrees keys values X.env pos)) (fun vs s' => ∃ ps H', Inv X pins σ H' s' ∧ VV ps vs ∧ Q ps H') X.xe s
theorem pps_nil {X : Cx} {pos : Pos} : PPs X pos [] [] [] := fun pins s σ H Q I h => pairTrees_nil_walk ⟨[], H, I, .nil, h⟩
theorem pps_cons {X : Cx} {pos : Pos} {k v : Expr} {ks : List (Option Expr)} {vs : List Expr} {tk tv : TE} {trs : List (TE × TE)} (hk : PE X k tk) (hv : PE X v tv) (hr : PPs X pos ks vs trs) :
    PPs X pos (some k :: ks) (v :: vs) ((tk, tv) :: trs) := fun pins s σ H Q I h =>
  pairTrees_cons_walk (thn (hk pins s σ H _ I h) fun u s1 ⟨x, H1, I1, rx, q1⟩ => thn (hv pins s1 σ H1 _ I1 q1) fun w2 s2 ⟨y, H2, I2, ry, q2⟩ =>
    thn (hr pins s2 σ H2 _ I2 q2) fun ws s3 ⟨ps, H3, I3, rel, q3⟩ => ⟨(x, y) :: ps, H3, I3, .cons ⟨rx, ry⟩ rel, q3⟩)
def mergeK (kvs more : List (Key × V)) : List (Key × V) := more.foldl (fun acc kv => putK acc kv.1 kv.2) kvs
theorem KV.merge : ∀ {more : List (Key × V)} {rs : List (Key × Value)} {kvs : List (Key × V)} {vs : List (Key × Value)}, KV more rs → KV kvs vs → KV (mergeK kvs more) (merged vs rs) := by
  intro more rs kvs vs r
  unfold KV at r
  induction r generalizing kvs vs with
  | nil => intro q; exact q
  | @cons p q ps qs h t ih =>
    intro r0
    have e : KV (putK kvs p.1 p.2) (stored vs q.1 q.2) := by
      have := r0.put p.1 h.2
      rw [← h.1]; exact this
    exact ih e
theorem length_mergeK : ∀ (more kvs : List (Key × V)), (mergeK kvs more).length ≤ kvs.length + more.length
  | [], kvs => by show kvs.length ≤ kvs.length + 0; omega
  | p :: r, kvs => by
    have h1 := length_mergeK r (putK kvs p.1 p.2)
    have h2 := length_putK kvs p.1 p.2
    show (mergeK (putK kvs p.1 p.2) r).length ≤ _
    rw [List.length_cons]; omega
theorem carries_of {P : Program} {w : World} : ∀ {kvs : List (Key × V)} {ws : List (Value × Value)}, VV (kvs.map fun kv => (kV kv.1, kv.2)) ws → ∃ rs, Carries (mixKind P w) ws rs ∧ KV kvs rs
  | [], _, r => by rw [List.map_nil] at r; cases r; exact ⟨[], True.intro, .nil⟩
  | p :: kvs, _, r => by
    rw [List.map_cons] at r
    cases r with
    | @cons a b as bs h t =>
      obtain ⟨rs, c, q⟩ := carries_of (P := P) (w := w) t
      obtain ⟨b1, b2⟩ := b
      exact ⟨(p.1, b2) :: rs, ⟨kV_is h.1, rfl, c⟩, .cons ⟨rfl, h.2⟩ q⟩
def tDisp (trs : List (TE × TE)) : TE := fun σ H Q => ∀ p, H p = none → tPairs trs σ (upd H p (.dK [])) fun ps H2 => H2 p = some (.dK []) ∧ ∃ kvs : List (Key × V), ps = kvs.map (fun kv => (kV kv.1, kv.2)) ∧ kvs.length ≤ 15 ∧ Q (.ref p) (upd H2 p (.dK (mergeK [] kvs)))
theorem pe_disp {X : Cx} {pos : Pos} {keys : List (Option Expr)} {values : List Expr} {trs : List (TE × TE)} (h : PPs X pos keys values trs) (hall : keys.all (·.isSome) = true) (hl : keys.length = values.length) (h0 : keys ≠ [])
    (h15 : keys.length ≤ 15) : PE X (.Dict keys values pos) (tDisp trs) := by
  intro pins s σ H Q I q
  have hn := I.hok.fresh (Nat.le_refl s.heap.objs.size)
  have I1 := I.laid (a := s.heap.objs.size) (o := .dK []) (h' := s.heap.push { cls := .type "dict", data := .dict #[] }) (t' := s.toks) (fun _ _ q => Heap.get?_push_of_some _ q) (Nat.le_refl _) (dk_empty s.heap I.big)
  refine wpAny_Dict_walk (knd := mixKind X.prog X.w) hall hl h0 h15 (thn (h pins _ σ _ _ I1 (q _ hn)) fun ws s2 ⟨ps, H2, I2, rel, e, kvs, ep, lk, q2⟩ => ?_)
  subst ep
  obtain ⟨rs, c, rk⟩ := carries_of (P := X.prog) (w := X.w) rel
  obtain ⟨z, hd, vs0, r0, dd⟩ := dk_of I2.hok e
  cases r0
  refine ⟨rs, c, dd, fun h' dd' hs => ⟨.ref s.heap.objs.size, _, ?_, rfl, q2⟩⟩
  have hz : (mergeK [] kvs).length ≤ sizeLine := by
    have h1 := length_mergeK kvs []
    rw [List.length_nil] at h1
    rw [sizeLine_eq]; omega
  have he : ∃ q, h'.get? s.heap.objs.size = some q := let ⟨q, _, _, hq, _⟩ := dd'; ⟨q, hq⟩
  exact d_write I2 (by rw [e]; exact True.intro) hs he (dk_new hz hd (rk.merge .nil) dd')
section
variable {X : Cx} {pins : List (Addr × Obj)} {σ : St} {H : Hp} {s : Shared} {a : Addr} {y d : V} {u r : Value} {o : Option V} {A : Around} {E : Value → Shared → Prop}
theorem d_get1 {Q : Value → Shared → Prop} (hu : A.units + 1 < cLine) (I : Inv X pins σ H s) (g : DGet H a y o) (ry : RelV y u) (h : ∀ w' s', Inv X pins σ H s' → RelV (o.getD .non) w' → Q w' s') :
    wpAny (model X.prog X.w) A (call (.builtin "dict.get") [.ref a, u]) Q E s := by
  rcases g with ⟨kvs, k, e, ey, l⟩ | ⟨kvs, k, b, e, ey, eb, l⟩
  · subst ey
    obtain ⟨z, hd, vs, rel, dd⟩ := dk_rd I.hok e
    refine call_meetsIn PySem.F.slot_dict_get dd.typeIs PySem.F.entry_dict_get (PySem.F.args_dict_get_2 _ _) (meets_dict_get (mixKind X.prog X.w) a (kV_is ry) hd) ⟨_, dd.mapOf, h _ _ (I.tok _) ?_⟩
    rw [l]
    exact (rel.val k).getD rfl
  · subst ey
    cases (show u = Value.ref b from ry)
    obtain ⟨z, hd, xs, rel, dd⟩ := dt_rd I.hok e
    refine call_meetsIn PySem.F.slot_dict_get dd.typeIs PySem.F.entry_dict_get (PySem.F.args_dict_get_2 _ _) (meetsH_dict_get (tupleKind (mixKind X.prog X.w)) a b hd) ⟨tupleKind_room_in1 hu, k, xs, key_of I.hok eb, dd, h _ _ (I.tok _) ?_⟩
    rw [l]
    exact (rel.val k).getD rfl
end
section
variable {X : Cx} {o e f : Expr} {apos cpos : Pos} {td ty tx : TE}
end
section
variable {X : Cx} {pins : List (Addr × Obj)} {σ : St} {H : Hp} {s : Shared} {a : Addr} {kvs : List (Key × V)} {A : Around} {E : Value → Shared → Prop}
end
section
variable {X : Cx} {pins : List (Addr × Obj)} {σ : St} {H : Hp} {s : Shared} {a : Addr} {y : V} {u : Value} {A : Around} {E : Value → Shared → Prop}
end
end L2
namespace HT
open PySem PyProof.Rows
section
open PySem.SeqAt
open PySem.AutoSeq1 (wpAny_loadPart')
open PySem.MeetsSeq PySem.MeetsSeq2 PySem.MeetsSeq3
end
section
variable {prog : Program} {w : World} {A : Around} {E : Value → Shared → Prop} {s : Shared}
def sIx (n d : Nat) : Option Int → Nat
  | none => d
  | some v => if v < 0 then (v + (n : Int)).toNat else min v.toNat n
theorem sIx_none (n d : Nat) : sIx n d none = d := rfl
theorem sIx_nat (n d k : Nat) : sIx n d (some (k : Int)) = min k n := by
  show (if (k : Int) < 0 then ((k : Int) + (n : Int)).toNat else min (k : Int).toNat n) = min k n
  rw [if_neg (by omega), Int.toNat_natCast]
theorem sIx_le (n d : Nat) (hd : d ≤ n) (o : Option Int) : sIx n d o ≤ n := by
  cases o with
  | none => exact hd
  | some v =>
    show (if v < 0 then (v + (n : Int)).toNat else min v.toNat n) ≤ n
    by_cases hv : v < 0
    · rw [if_pos hv]; omega
    · rw [if_neg hv]; exact Nat.min_le_right _ _
theorem clip_eq (v : Int) (n d : Nat) : (if v < 0 then max (v + (n : Int)) 0 else min v (n : Int)) = ((sIx n d (some v) : Nat) : Int) := by
  show (if v < 0 then max (v + (n : Int)) 0 else min v (n : Int)) = (((if v < 0 then (v + (n : Int)).toNat else min v.toNat n) : Nat) : Int)
  by_cases hv : v < 0
  · simp only [if_pos hv]; omega
  · simp only [if_neg hv]; omega
theorem adjust_gen (lo hi : Option Int) (n : Nat) : Builtin.Slice.sliceAdjust lo hi 1 (n : Int) = (((sIx n 0 lo : Nat) : Int), ((sIx n n hi : Nat) : Int)) := by
  have h1 : ¬ ((1 : Int) < 0) := by omega
  unfold Builtin.Slice.sliceAdjust
  simp only [h1, if_false]
  refine Prod.ext ?_ ?_
  · cases lo with
    | none => rfl
    | some v => exact clip_eq v n 0
  · cases hi with
    | none => rfl
    | some v => exact clip_eq v n n
theorem places_gen (i j : Nat) : Builtin.Slice.slicePlaces (i : Int) (j : Int) 1 = j - i := by
  unfold Builtin.Slice.slicePlaces
  have h1 : (1 : Int) > 0 := by omega
  simp only [h1, if_true, Int.ediv_one]
  split <;> omega
theorem slicePart_ {v : Value} {o : Option Int} {Q : Option Int → Shared → Prop} (p : IsPart v o) (h : Q o s) : wpAny (model prog w) A (Builtin.Slice.slicePartIndex v) Q E s := by
  cases p with
  | none => exact slicePart_none h
  | int i t => exact slicePart_int h
theorem sliceApplied_gen {sl : Addr} {vl vu : Value} {lo hi : Option Int} {n : Nat} {Q : Int × Int × Nat → Shared → Prop} (hs : s.heap.IsSliceOf sl vl vu .none) (pl : IsPart vl lo) (pu : IsPart vu hi)
    (h : Q (((sIx n 0 lo : Nat) : Int), 1, sIx n n hi - sIx n 0 lo) s) : wpAny (model prog w) A (Builtin.Slice.sliceApplied (.ref sl) (pure (n : Int))) Q E s := by
  obtain ⟨os, hos, hcs, hds⟩ := id hs
  unfold Builtin.Slice.sliceApplied Builtin.Slice.sliceFields
  refine wpAny_bind (wpAny_bind (wpAny_field hos hds (x := vl) rfl (wpAny_bind (wpAny_field hos hds (x := vu) rfl (wpAny_bind (wpAny_field hos hds (x := .none) rfl (wpAny_pure ?_)))))))
  refine wpAny_bind (slicePart_none ?_)
  show wpAny _ _ (if ((1 : Int) == 0) = true then _ else _) _ _ s
  rw [if_neg (by decide)]
  refine wpAny_bind (slicePart_ pl (wpAny_bind (slicePart_ pu (wpAny_bind (wpAny_pure ?_)))))
  show wpAny _ _ (match Builtin.Slice.sliceAdjust lo hi 1 (n : Int) with | (lo, hi) => pure (lo, (1 : Int), Builtin.Slice.slicePlaces lo hi 1)) _ _ s
  rw [adjust_gen lo hi n]
  show wpAny _ _ (pure (((sIx n 0 lo : Nat) : Int), (1 : Int), Builtin.Slice.slicePlaces ((sIx n 0 lo : Nat) : Int) ((sIx n n hi : Nat) : Int) 1)) _ _ s
  rw [places_gen]
  exact wpAny_pure h
theorem pick_gen (xs : Array Value) (i k : Nat) : ((List.range k).filterMap fun (m : Nat) => xs[((i : Int) + (m : Int) * 1).toNat]?).toArray = ((xs.toList.drop i).take k).toArray := by
  have e : (fun (m : Nat) => xs[((i : Int) + (m : Int) * 1).toNat]?) = fun m => xs[i + m]? := by
    funext m
    have : ((i : Int) + (m : Int) * 1).toNat = i + m := by omega
    rw [this]
  rw [e]
  have := pick_run xs i k
  rw [List.filterMap_map] at this
  have e2 : ((fun x => xs[x]?) ∘ fun x => i + x) = fun m => xs[i + m]? := rfl
  rw [e2] at this
  rw [this]
theorem getItem_tuple_cut {t sl : Addr} {items : Array Value} {vl vu : Value} {lo hi : Option Int} {Q : Value → Shared → Prop} (ht : IsTup s.heap t items) (hs : s.heap.IsSliceOf sl vl vu .none) (pl : IsPart vl lo) (pu : IsPart vu hi)
    (hw : ¬ (sIx items.size 0 lo = 0 ∧ sIx items.size items.size hi = items.size))
    (h : Q (.ref s.heap.objs.size) { s with heap := s.heap.push { cls := .type "tuple", data := .seq ((items.toList.drop (sIx items.size 0 lo)).take (sIx items.size items.size hi - sIx items.size 0 lo)).toArray } })
    (hsz : items.size ≤ sizeLine) : wpAny (model prog w) A (getItem (.ref t) (.ref sl)) Q E s := by
  have htake : sizeOk (.seq ((items.toList.drop (sIx items.size 0 lo)).take (sIx items.size items.size hi - sIx items.size 0 lo)).toArray) := by
    show ((items.toList.drop (sIx items.size 0 lo)).take (sIx items.size items.size hi - sIx items.size 0 lo)).toArray.size ≤ sizeLine
    rw [List.size_toArray, List.length_take, List.length_drop, Array.length_toList]
    omega
  have hj : sIx items.size items.size hi ≤ items.size := sIx_le _ _ (Nat.le_refl _) hi
  obtain ⟨os, hos, hcs, hds⟩ := id hs
  have hTs : s.TypeIs (.ref sl) "slice" := ⟨os, hos, hcs⟩
  unfold getItem
  try with_reducible refine wpAny_holding ?_
  first | refine wpAny_bind (wpAny_pure ?_) | skip
  refine wpAny_bind (wpAny_sequenceKey ht.typeIs (by decide) ?_)
  refine wpAny_bind (wpAny_callSpecial?_slot (name := Str.ofString "__getitem__") ht.typeIs PyProof.Rows.slot_tuple_getitem
    (wpAny_call_entry PyProof.Rows.slot_tuple_getitem ht.typeIs entry_tuple_getitem ?_ (args_tuple_getitem _ _)))
  show wpAny _ _ (Builtin.Tuple.tupleItemsOf (.ref t) >>= _) _ _ s
  refine wpAny_bind (tupleItemsOf_ ht ?_)
  refine wpAny_bind (wpAny_typeOf hTs ?_)
  rw [if_pos (by decide)]
  refine wpAny_bind (sliceApplied_gen hs pl pu ?_)
  have hno : ¬ ((((sIx items.size 0 lo : Nat) : Int) == 0 && (1 : Int) == 1 && (sIx items.size items.size hi - sIx items.size 0 lo) == items.size) = true) := by
    intro q
    rw [Bool.and_eq_true, Bool.and_eq_true] at q
    have q1 : ((sIx items.size 0 lo : Nat) : Int) = 0 := eq_of_beq q.1.1
    have q2 : sIx items.size items.size hi - sIx items.size 0 lo = items.size := eq_of_beq q.2
    exact hw ⟨by omega, by omega⟩
  show wpAny _ _ (if (((sIx items.size 0 lo : Nat) : Int) == 0 && (1 : Int) == 1 && (sIx items.size items.size hi - sIx items.size 0 lo) == items.size) = true then _ else _) _ _ s
  rw [if_neg hno, pick_gen]
  first
    | exact wpAny_bind (m := Builtin.Tuple.tupleExact _) (wpAny_newObj_type (wpAny_pure ⟨_, rfl, wpAny_pure h⟩) htake)
    | exact wpAny_bind (m := Builtin.Tuple.tupleExact _) (wpAny_newObj_type (wpAny_bind (wpAny_pure (wpAny_pure ⟨_, rfl, wpAny_pure h⟩))) htake)
    | exact wpAny_bind (wpAny_bind (m := Builtin.Tuple.tupleExact _) (wpAny_newObj_type (wpAny_pure (wpAny_pure ⟨_, rfl, wpAny_pure h⟩)) htake))
    | exact wpAny_bind (wpAny_bind (m := Builtin.Tuple.tupleExact _) (wpAny_newObj_type (wpAny_pure ⟨_, rfl, wpAny_pure h⟩) htake))
end
end HT
namespace L2
open PySem PySem.Spec PyProof.Rows
abbrev TO := St → Hp → (Option Int → Hp → Prop) → Prop
def PO (X : Cx) (e : Option Expr) (t : TO) : Prop :=
  ∀ (pins : List (Addr × Obj)) (s : Shared) (σ : St) (H : Hp) (Q : Option Int → Hp → Prop), Inv X pins σ H s → t σ H Q →
    wpAny (model X.prog X.w) X.A (evalPart e X.env) (fun u s' => ∃ o H', Inv X pins σ H' s' ∧ IsPart u o ∧ Q o H') X.xe s
def tNoPart : TO := fun _ H Q => Q none H
def tPart (t : TE) : TO := fun σ H Q => t σ H fun x H1 => ∃ i, x = .int i ∧ Q (some i) H1
section
variable {X : Cx} {e : Expr} {te : TE} {lo hi : Option Expr} {tl th : TO} {pos p2 : Pos}
theorem po_none : PO X none tNoPart := by
  intro pins s σ H Q I h
  rw [evalPart_none]
  exact wpAny_pure ⟨none, H, I, .none, h⟩
theorem po_some (h : PE X e te) : PO X (some e) (tPart te) := by
  intro pins s σ H Q I hw
  rw [evalPart_some]
  refine thn (h pins s σ H _ I hw) fun u s1 ⟨x, H1, I1, r1, q1⟩ => ?_
  obtain ⟨i, rfl, q⟩ := q1
  obtain ⟨t, rfl⟩ := r1
  exact ⟨some i, H1, I1, .int i t, q⟩
def SlR (X : Cx) (r : V → Option Int → Option Int → Hp → VK → Prop) : Prop :=
  ∀ (pins : List (Addr × Obj)) (s : Shared) (σ : St) (H : Hp) (x : V) (v vl vu : Value) (lo hi : Option Int) (sl : Addr) (Q : VK), Inv X pins σ H s → RelV x v → s.heap.IsSliceOf sl vl vu .none → IsPart vl lo → IsPart vu hi → r x lo hi H Q →
    ∃ T id, typeLookup (.type T) "__getitem__" = pure (some (.builtin id)) ∧ s.TypeIs v T ∧ wpAny (model X.prog X.w) X.A (getItem v (.ref sl)) (EP X pins σ Q) X.xe s
def tSl (r : V → Option Int → Option Int → Hp → VK → Prop) (te : TE) (tl th : TO) : TE := fun σ H Q => te σ H fun x H1 => tl σ H1 fun l H2 => th σ H2 fun u H3 => r x l u H3 Q
theorem pe_slice {r : V → Option Int → Option Int → Hp → VK → Prop} (hr : SlR X r) (he : PE X e te) (hl : PO X lo tl) (hu : PO X hi th) : PE X (.Subscript e (.Slice lo hi none p2) pos) (tSl r te tl th) := by
  intro pins s σ H Q I h
  refine Subscript_ (thn (he pins s σ H _ I h) fun v s1 ⟨x, H1, I1, r1, q1⟩ => ?_)
  refine wpAny_Slice (thn (hl pins s1 σ H1 _ I1 q1) fun vl s2 ⟨l, H2, I2, pl, q2⟩ => thn (hu pins s2 σ H2 _ I2 q2) fun vu s3 ⟨u, H3, I3, pu, q3⟩ => ?_)
  rw [evalPart_none]
  refine wpAny_pure ?_
  have I4 : Inv X pins σ H3 { s3 with heap := s3.heap.push { cls := .type "slice", data := .fields #[vl, vu, .none] } } := I3.kept (t' := s3.toks) fun b ob q => Heap.get?_push_of_some _ q
  obtain ⟨T, id, hT, ht, hg⟩ := hr pins { s3 with heap := s3.heap.push { cls := .type "slice", data := .fields #[vl, vu, .none] } } σ H3 x v vl vu l u s3.heap.objs.size Q I4 r1 (Heap.IsSliceOf.new ..) pl pu q3
  show wpAny (model X.prog X.w) X.A (subscriptTail e (.Slice lo hi none p2) v (.ref s3.heap.objs.size)) (EP X pins σ Q) X.xe { s3 with heap := s3.heap.push { cls := .type "slice", data := .fields #[vl, vu, .none] } }
  exact tail_any (ops := [.ref s3.heap.objs.size, v]) ht hT hg (by with_unfolding_all rfl)
def cutV (xs : List V) (lo hi : Option Int) : List V := (xs.drop (HT.sIx xs.length 0 lo)).take (HT.sIx xs.length xs.length hi - HT.sIx xs.length 0 lo)
theorem cutV_length (xs : List V) (lo hi : Option Int) : (cutV xs lo hi).length ≤ xs.length := by
  unfold cutV
  rw [List.length_take, List.length_drop]
  omega
def rSlT (K : PySem.W.Frag) : V → Option Int → Option Int → Hp → VK → Prop := fun x lo hi H Q => ∃ a xs, x = .ref a ∧ SqT K H a xs ∧
  ¬ (HT.sIx xs.length 0 lo = 0 ∧ HT.sIx xs.length xs.length hi = xs.length) ∧ ∀ p, H p = none → Q (.ref p) (upd H p (.tup (cutV xs lo hi)))
theorem sl_tup : SlR X (rSlT X.K) := by
  intro pins s σ H x v vl vu lo hi sl Q I rx hs pl pu h
  obtain ⟨a, xs, rfl, hx, hw, q⟩ := h
  cases rx
  obtain ⟨its, r, ht, hz⟩ := I.tuple hx
  have hlen : its.toArray.size = xs.length := by rw [List.size_toArray]; exact r.length.symm
  refine ⟨"tuple", _, PyProof.Rows.slot_tuple_getitem.lookup, ht.typeIs, ?_⟩
  refine HT.getItem_tuple_cut ht hs pl pu (by rw [hlen]; exact hw) ?_ (by rw [hlen]; exact hz)
  rw [hlen]
  refine ⟨.ref s.heap.objs.size, _, I.laid (t' := s.toks) (o := .tup (cutV xs lo hi)) (fun b ob q => Heap.get?_push_of_some _ q) (Nat.le_refl _) ?_, rfl, q _ (I.hok.fresh (Nat.le_refl _))⟩
  exact ⟨⟨Nat.le_trans (cutV_length xs lo hi) hz, new_bare⟩, _, (r.drop (HT.sIx xs.length 0 lo)).take (HT.sIx xs.length xs.length hi - HT.sIx xs.length 0 lo), IsTup.new _ _⟩
end
end L2
namespace L2
open PySem PySem.Spec PyProof.Rows
def ixN (n : Nat) (i : Int) : Option Nat := if 0 ≤ i then (if i < n then some i.toNat else none) else if -(n : Int) ≤ i then some (i + n).toNat else none
def atI {α : Type} (xs : List α) (i : Int) : Option α := (ixN xs.length i).bind fun j => xs[j]?
theorem ixN_seq {n : Nat} {i : Int} {j : Nat} (h : ixN n i = some j) : seqIndex? i n = some j ∧ j < n ∧ -(n : Int) ≤ i ∧ i < n := by
  unfold ixN at h
  by_cases h0 : 0 ≤ i
  · rw [if_pos h0] at h
    by_cases h1 : i < n
    · rw [if_pos h1] at h
      have e : i.toNat = j := Option.some.inj h
      exact ⟨by rw [seqIndex_of h0 h1, e], by omega, by omega, h1⟩
    · rw [if_neg h1] at h; cases h
  · rw [if_neg h0] at h
    by_cases h1 : -(n : Int) ≤ i
    · rw [if_pos h1] at h
      have e : (i + n).toNat = j := Option.some.inj h
      exact ⟨by rw [seqIndex_neg (by omega) h1, e], by omega, h1, by omega⟩
    · rw [if_neg h1] at h; cases h
theorem atI_get {α : Type} {xs : List α} {i : Int} {v : α} (h : atI xs i = some v) : ∃ j, seqIndex? i xs.length = some j ∧ xs[j]? = some v ∧ j < xs.length ∧ -(xs.length : Int) ≤ i ∧ i < xs.length := by
  unfold atI at h
  cases e : ixN xs.length i with
  | none => rw [e] at h; cases h
  | some j =>
    rw [e] at h
    obtain ⟨h1, h2, h3, h4⟩ := ixN_seq e
    exact ⟨j, h1, h, h2, h3, h4⟩
theorem atI_nat {α : Type} {xs : List α} {j : Nat} {v : α} (h : xs[j]? = some v) : atI xs (j : Int) = some v := by
  have hj : j < xs.length := (List.getElem?_eq_some_iff.mp h).1
  have e : ixN xs.length (j : Int) = some j := by
    unfold ixN
    rw [if_pos (by omega), if_pos (by omega)]; simp
  unfold atI; rw [e]; exact h
def PlainIx (b : Expr) : Prop := ∀ o i, subscripted b false o i = operate [o, i] (getItem o i)
def IxR (X : Cx) (r : R2) : Prop :=
  ∀ (value slice : Expr) (pins : List (Addr × Obj)) (s : Shared) (σ : St) (H : Hp) (x y : V) (v u : Value) (Q : VK), Inv X pins σ H s → RelV x v → RelV y u → r x y H Q →
    subscripted slice false v u = operate [v, u] (getItem v u) → wpAny (model X.prog X.w) X.A (subscriptTail value slice v u) (EP X pins σ Q) X.xe s
def MtR (X : Cx) (id : String) (r : V → List V → Hp → VK → Prop) : Prop :=
  ∀ (pins : List (Addr × Obj)) (s : Shared) (σ : St) (H : Hp) (x : V) (xs : List V) (v : Value) (us : List Value) (Q : VK), Inv X pins σ H s → RelV x v → Vals xs us → r x xs H Q →
    wpAny (model X.prog X.w) X.A (call (.builtin id) (v :: us)) (EP X pins σ Q) X.xe s
section
variable {X : Cx} {a b : Expr} {ta tb : TE} {pos : Pos}
theorem pe_ix {r : R2} (hr : IxR X r) (ha : PE X a ta) (hb : PE X b tb) (hs : PlainIx b) : PE X (.Subscript a b pos) (tOp r ta tb) := by
  intro pins s σ H Q I h
  exact Subscript_ (binT ha hb I h fun v u s2 x y H2 I2 rx ry q => hr a b pins s2 σ H2 x y v u Q I2 rx ry q (hs _ _))
def rIxL (K : PySem.W.Frag) : R2 := fun x y H Q => ∃ p xs i v, x = .ref p ∧ y = .int i ∧ SqL K H p xs ∧ atI xs i = some v ∧ Q v H
def rIxT (K : PySem.W.Frag) : R2 := fun x y H Q => ∃ p xs i v, x = .ref p ∧ y = .int i ∧ SqT K H p xs ∧ atI xs i = some v ∧ Q v H
theorem ix_list : IxR X (rIxL X.K) := by
  intro value slice pins s σ H x y v u Q I rx ry h hs
  obtain ⟨p, xs, i, z, rfl, rfl, hq, he, q⟩ := h
  cases rx
  obtain ⟨t, rfl⟩ := ry
  obtain ⟨its, r, pl, hz⟩ := I.list hq
  obtain ⟨j, h1, h2, h3, h4, h5⟩ := atI_get he
  obtain ⟨w, ew, rw'⟩ := r.get h2
  have hl := r.length
  have hn := line63
  have fin : EP X pins σ Q w s := ⟨z, H, I, rw', q⟩
  by_cases h0 : 0 ≤ i
  · have hj : i.toNat = j := by
      rw [seqIndex_of h0 h5] at h1
      exact Option.some.inj h1
    exact item_listR pl.isList h0 (by omega) (by rw [hj]; simpa using ew) fin hs
  · have hj : (i + (its.toArray.size : Int)).toNat = j := by
      rw [seqIndex_neg (by omega) h4] at h1
      rw [List.size_toArray, ← hl]
      exact Option.some.inj h1
    exact subscriptTail_builtinR (x := w) pl.isList.typeIs slot_list_getitem.lookup
      (wpAny_getItem_list_neg (Q := fun r s' => r = w ∧ EP X pins σ Q r s') pl.isList (by omega) (by rw [List.size_toArray] <;> omega) (by omega) (by rw [hj]; simpa using ew) ⟨rfl, fin⟩) hs
theorem ix_tup : IxR X (rIxT X.K) := by
  intro value slice pins s σ H x y v u Q I rx ry h hs
  obtain ⟨p, xs, i, z, rfl, rfl, hq, he, q⟩ := h
  cases rx
  obtain ⟨t, rfl⟩ := ry
  obtain ⟨its, r, pl, hz⟩ := I.tuple hq
  obtain ⟨j, h1, h2, h3, h4, h5⟩ := atI_get he
  obtain ⟨w, ew, rw'⟩ := r.get h2
  have hl := r.length
  have hn := line63
  have fin : EP X pins σ Q w s := ⟨z, H, I, rw', q⟩
  exact subscriptTail_builtinR (x := w) pl.typeIs slot_tuple_getitem.lookup
    (getItem_tuple (j := j) (Q := fun r s' => r = w ∧ EP X pins σ Q r s') pl (by omega) (by omega) (by rw [List.size_toArray, ← hl]; exact h1) (by simpa using ew) ⟨rfl, fin⟩) hs
theorem mapSeq_set (its : List Value) (n j : Nat) (u : Value) : Obj.mapSeq (·.setIfInBounds j u) { cls := .type "list", data := .seq its.toArray n } = { cls := .type "list", data := .seq (its.set j u).toArray n } := by
  simp [Obj.mapSeq]
theorem Inv.lst {pins : List (Addr × Obj)} {σ : St} {H : Hp} {s : Shared} {p : Addr} {xs : List V} (I : Inv X pins σ H s) (h : H p = some (.lst xs)) :
    ∃ (its : List Value) (n : Nat), Vals xs its ∧ s.heap.get? p = some { cls := .type "list", data := .seq its.toArray n } ∧ xs.length ≤ sizeLine := by
  obtain ⟨z, its, n, r, e⟩ := I.hok p _ h
  exact ⟨its, n, r, e, z⟩
theorem Inv.lstUpd {pins : List (Addr × Obj)} {σ : St} {H : Hp} {s : Shared} {p : Addr} {xs ys : List V} {its its' : List Value} {n n' : Nat} {f : Obj → Obj} (I : Inv X pins σ H s) (h : H p = some (.lst xs))
    (ho : s.heap.get? p = some { cls := .type "list", data := .seq its.toArray n }) (hf : f { cls := .type "list", data := .seq its.toArray n } = { cls := .type "list", data := .seq its'.toArray n' }) (r : Vals ys its') (hz : ys.length ≤ sizeLine) (t : Nat) :
    Inv X pins σ (upd H p (.lst ys)) { s with heap := s.heap.update p f, toks := t } := by
  have e : (s.heap.update p f).get? p = some { cls := .type "list", data := .seq its'.toArray n' } := by
    rw [Heap.get?_update_self f ho (by rw [hf] <;> rfl), hf]
  refine I.write (x := p) (e := p) (by rw [h]; trivial) (.inl rfl) (fun b u hb q => (Heap.get?_update_other _ _ (Ne.symm hb)).trans q) ⟨_, e⟩ ?_
  exact ⟨hz, its', n', r, e⟩
def rSetL : V → V → V → Hp → (Hp → Prop) → Prop := fun o i v H Q => ∃ p xs k j, o = .ref p ∧ i = .int k ∧ H p = some (.lst xs) ∧ ixN xs.length k = some j ∧ Q (upd H p (.lst (xs.set j v)))
theorem set_list : PSet X rSetL := by
  intro pins s σ H o i v ov iv u Q I ro ri rv h
  obtain ⟨p, xs, k, j, rfl, rfl, hp, hj, q⟩ := h
  cases ro
  obtain ⟨t, rfl⟩ := ri
  obtain ⟨its, n, r, ho, hz⟩ := I.lst hp
  obtain ⟨h1, h2, h3, h4⟩ := ixN_seq hj
  have hl := r.length
  have hn := line63
  have I' : Inv X pins σ (upd H p (.lst (xs.set j v))) { s with heap := s.heap.update p (Obj.mapSeq (·.setIfInBounds j u)) } :=
    I.lstUpd hp ho (mapSeq_set its n j u) (r.set rv j) (by rw [List.length_set]; exact hz) s.toks
  by_cases h0 : 0 ≤ k
  · have hk : k.toNat = j := by
      rw [seqIndex_of h0 h4] at h1
      exact Option.some.inj h1
    exact PySem.W.ki_setAt ho h0 (by omega) (by rw [List.size_toArray, ← hl]; exact h4) (by rw [hk]; exact ⟨_, I', q⟩)
  · have hk : (k + (its.toArray.size : Int)).toNat = j := by
      rw [seqIndex_neg (by omega) h3] at h1
      rw [List.size_toArray, ← hl]
      exact Option.some.inj h1
    exact PySem.W.ki_setBack ho (by omega) (by rw [List.size_toArray, ← hl]; exact h3) (by omega) (by rw [hk]; exact ⟨_, I', q⟩)
theorem slice_bounds (lo hi : Option Int) (n : Nat) : (sliceBounds lo hi none n).1 = ((HT.sIx n 0 lo : Nat) : Int) ∧ (sliceBounds lo hi none n).2.1 = ((HT.sIx n n hi : Nat) : Int) ∧ (sliceBounds lo hi none n).2.2 = 1 := by
  refine ⟨?_, ?_, rfl⟩
  · cases lo with
    | none => simp [sliceBounds, HT.sIx]
    | some i =>
      simp only [sliceBounds, HT.sIx, Option.getD_none, show (1 : Int) > 0 by decide, if_true]
      by_cases h : i < 0
      · simp only [h, if_true] <;> omega
      · simp only [h, if_false] <;> omega
  · cases hi with
    | none => simp [sliceBounds, HT.sIx]
    | some i =>
      simp only [sliceBounds, HT.sIx, Option.getD_none, show (1 : Int) > 0 by decide, if_true]
      by_cases h : i < 0
      · simp only [h, if_true] <;> omega
      · simp only [h, if_false] <;> omega
theorem slicePick_cut (its : List Value) (lo hi : Option Int) : slicePick its.toArray lo hi none = ((its.drop (HT.sIx its.length 0 lo)).take (HT.sIx its.length its.length hi - HT.sIx its.length 0 lo)).toArray := by
  obtain ⟨h1, h2, h3⟩ := slice_bounds lo hi its.toArray.size
  unfold slicePick
  rw [h1, h2, h3]
  simp only [sliceRange_one, pick_run, List.size_toArray] <;> rfl
def rSlL (K : PySem.W.Frag) : V → Option Int → Option Int → Hp → VK → Prop := fun x lo hi H Q => ∃ a xs, x = .ref a ∧ SqL K H a xs ∧ ∀ p, H p = none → Q (.ref p) (upd H p (.lst (cutV xs lo hi)))
theorem sl_list : SlR X (rSlL X.K) := by
  intro pins s σ H x v vl vu lo hi sl Q I rx hs pl pu h
  obtain ⟨a, xs, rfl, hx, q⟩ := h
  cases rx
  obtain ⟨its, r, ht, hz⟩ := I.list hx
  have hlen := r.length
  refine ⟨"list", _, slot_list_getitem.lookup, ht.isList.typeIs, ?_⟩
  refine wpAny_getItem_list_slice ht.isList hs pl pu .none (by simp) ?_ (by rw [List.size_toArray] <;> omega)
  rw [slicePick_cut, ← hlen]
  refine ⟨.ref s.heap.objs.size, _, I.laid (t' := s.toks) (o := .lst (cutV xs lo hi)) (fun b ob q => Heap.get?_push_of_some _ q) (Nat.le_refl _) ?_, rfl, q _ (I.hok.fresh (Nat.le_refl _))⟩
  exact ⟨Nat.le_trans (cutV_length xs lo hi) hz, _, 0, (r.drop (HT.sIx xs.length 0 lo)).take (HT.sIx xs.length xs.length hi - HT.sIx xs.length 0 lo), Heap.get?_push_size _ rfl⟩
def flatV : V → Bool
  | .non => true
  | .bl _ => true
  | .int _ => true
  | .str _ => true
  | _ => false
def eqV : V → V → Bool
  | .non, .non => true
  | .bl a, .bl b => a == b
  | .bl a, .int b => (if a then 1 else 0) == b
  | .int a, .bl b => a == (if b then 1 else 0)
  | .int a, .int b => a == b
  | .str a, .str b => a == b
  | _, _ => false
theorem eqAt_V {A : Around} {s : Shared} {y x : V} {u v : Value} (ry : RelV y u) (rx : RelV x v) (fy : flatV y = true) (fx : flatV x = true) : SeqAt.EqAt A s u v (eqV y x) := by
  cases y with
  | non =>
    cases ry
    cases x with
    | non => cases rx; exact SeqAt.EqAt.same _
    | bl b => cases rx; exact SeqAt.EqAt.none_bool b
    | int b => obtain ⟨t, rfl⟩ := rx; exact SeqAt.EqAt.none_int b t
    | str b => obtain ⟨t, rfl⟩ := rx; exact SeqAt.EqAt.none_str b t
    | _ => exact absurd (show false = true from fx) Bool.false_ne_true
  | bl a =>
    cases ry
    cases x with
    | non => cases rx; exact SeqAt.EqAt.bool_none a
    | bl b => cases rx; exact SeqAt.EqAt.bool_bool a b
    | int b => obtain ⟨t, rfl⟩ := rx; exact SeqAt.EqAt.bool_int a b t
    | str b => obtain ⟨t, rfl⟩ := rx; exact SeqAt.EqAt.bool_str a b t
    | _ => exact absurd (show false = true from fx) Bool.false_ne_true
  | int a =>
    obtain ⟨t', rfl⟩ := ry
    cases x with
    | non => cases rx; exact SeqAt.EqAt.int_none a t'
    | bl b => cases rx; exact SeqAt.EqAt.int_bool a t' b
    | int b => obtain ⟨t, rfl⟩ := rx; exact SeqAt.EqAt.int_int a t' b t
    | str b => obtain ⟨t, rfl⟩ := rx; exact SeqAt.EqAt.int_str a t' b t
    | _ => exact absurd (show false = true from fx) Bool.false_ne_true
  | str a =>
    obtain ⟨t', rfl⟩ := ry
    cases x with
    | non => cases rx; exact SeqAt.EqAt.str_none a t'
    | bl b => cases rx; exact SeqAt.EqAt.str_bool a t' b
    | int b => obtain ⟨t, rfl⟩ := rx; exact SeqAt.EqAt.str_int a t' b t
    | str b => obtain ⟨t, rfl⟩ := rx; exact SeqAt.EqAt.str_str a t' b t
    | _ => exact absurd (show false = true from fx) Bool.false_ne_true
  | _ => exact absurd (show false = true from fy) Bool.false_ne_true
def eqU (x : V) (u : Value) : Bool := match u with
  | .none => eqV .non x
  | .bool b => eqV (.bl b) x
  | .int i _ => eqV (.int i) x
  | .str z _ => eqV (.str z) x
  | _ => false
theorem eqU_of {x y : V} {u : Value} (r : RelV y u) (f : flatV y = true) : eqU x u = eqV y x := by
  cases y with
  | non => cases r; rfl
  | bl b => cases r; rfl
  | int i => obtain ⟨t, rfl⟩ := r; rfl
  | str z => obtain ⟨t, rfl⟩ := r; rfl
  | _ => exact absurd (show false = true from f) Bool.false_ne_true
theorem any_eqU {x : V} : ∀ {xs : List V} {us : List Value}, Vals xs us → xs.all flatV = true → us.any (eqU x) = xs.any fun y => eqV y x
  | _, _, .nil, _ => rfl
  | y :: xs, u :: us, .cons r t, f => by
    rw [List.all_cons, Bool.and_eq_true] at f
    rw [List.any_cons, List.any_cons, eqU_of r f.1, any_eqU t f.2]
theorem mem_eqAt {A : Around} {s : Shared} {x : V} {v : Value} (rx : RelV x v) (fx : flatV x = true) : ∀ {xs : List V} {us : List Value}, Vals xs us → xs.all flatV = true → ∀ u ∈ us, SeqAt.EqAt A s u v (eqU x u)
  | _, _, .nil, _ => fun u hu => by cases hu
  | y :: xs, u :: us, .cons r t, f => fun u' hu => by
    rw [List.all_cons, Bool.and_eq_true] at f
    rcases List.mem_cons.mp hu with rfl | hu
    · rw [eqU_of r f.1]; exact eqAt_V r rx f.1 fx
    · exact mem_eqAt rx fx t f.2 u' hu
def inV (x : V) (xs : List V) : Bool := xs.any fun y => eqV y x
def rIn (K : PySem.W.Frag) (neg : Bool) : R2 := fun x y H Q => ∃ p xs, y = .ref p ∧ (SqL K H p xs ∨ SqT K H p xs) ∧ flatV x = true ∧ xs.all flatV = true ∧ Q (.bl (if neg then !inV x xs else inV x xs)) H
theorem op_in_seq : OpR X (compareOp .In) (rIn X.K false) := by
  intro pins s σ H x y v u Q I rx ry h
  obtain ⟨p, xs, rfl, hq, fx, fs, q⟩ := h
  cases ry
  rcases hq with hq | hq
  · obtain ⟨its, r, pl, hz⟩ := I.list hq
    refine SeqAt.in_listAt (eqU x) pl.isList (fun w hw => mem_eqAt rx fx r fs w (by simpa using hw)) ⟨.bl _, H, I, rfl, ?_⟩
    rw [show its.toArray.any (eqU x) = its.any (eqU x) by simp, any_eqU r fs]
    exact q
  · obtain ⟨its, r, pl, hz⟩ := I.tuple hq
    refine SeqAt.in_tupleAt (eqU x) pl (fun w hw => mem_eqAt rx fx r fs w (by simpa using hw)) ⟨.bl _, H, I, rfl, ?_⟩
    rw [show its.toArray.any (eqU x) = its.any (eqU x) by simp, any_eqU r fs]
    exact q
theorem op_notIn_seq : OpR X (compareOp .NotIn) (rIn X.K true) := by
  intro pins s σ H x y v u Q I rx ry h
  obtain ⟨p, xs, rfl, hq, fx, fs, q⟩ := h
  cases ry
  rcases hq with hq | hq
  · obtain ⟨its, r, pl, hz⟩ := I.list hq
    refine SeqAt.notIn_listAt (eqU x) pl.isList (fun w hw => mem_eqAt rx fx r fs w (by simpa using hw)) ⟨.bl _, H, I, rfl, ?_⟩
    rw [show its.toArray.any (eqU x) = its.any (eqU x) by simp, any_eqU r fs]
    exact q
  · obtain ⟨its, r, pl, hz⟩ := I.tuple hq
    refine SeqAt.notIn_tupleAt (eqU x) pl (fun w hw => mem_eqAt rx fx r fs w (by simpa using hw)) ⟨.bl _, H, I, rfl, ?_⟩
    rw [show its.toArray.any (eqU x) = its.any (eqU x) by simp, any_eqU r fs]
    exact q
theorem call_len_seq : CallR X (.builtin "len") (fun xs H Q => ∃ p ys, xs = [.ref p] ∧ (SqL X.K H p ys ∨ SqT X.K H p ys) ∧ Q (.int ys.length) H) := by
  intro pins s σ H xs us Q I r h
  obtain ⟨p, ys, rfl, hq, q⟩ := h
  obtain ⟨u, rfl, rx⟩ := vals1 r
  cases rx
  have hn := line63
  rcases hq with hq | hq
  · obtain ⟨its, r', pl, hz⟩ := I.list hq
    have hlen := r'.length
    exact Calls.call_len_list pl.isList (by simp only [List.size_toArray] <;> omega) ⟨.int ys.length, H, I.tok _, ⟨s.toks + 1, by rw [List.size_toArray, hlen]⟩, q⟩
  · obtain ⟨its, r', pl, hz⟩ := I.tuple hq
    have hlen := r'.length
    exact len_tuple pl (by simp only [List.size_toArray] <;> omega) ⟨.int ys.length, H, I.tok _, ⟨s.toks + 1, by rw [List.size_toArray, hlen]⟩, q⟩
theorem call_list_of : CallR X (.type "list") (fun xs H Q => ∃ p ys, xs = [.ref p] ∧ (SqL X.K H p ys ∨ SqT X.K H p ys) ∧ ∀ l, H l = none → Q (.ref l) (upd H l (.lst ys))) := by
  intro pins s σ H xs us Q I r h
  obtain ⟨p, ys, rfl, hq, q⟩ := h
  obtain ⟨u, rfl, rx⟩ := vals1 r
  cases rx
  have fin : ∀ (its : List Value), Vals ys its → ys.length ≤ sizeLine → ∀ (h' : Heap) (c' : Nat), (∀ b o', s.heap.get? b = some o' → h'.get? b = some o') →
      h'.get? s.heap.objs.size = some { cls := .type "list", dict := none, data := .seq its.toArray c', slots := #[] } → EP X pins σ Q (.ref s.heap.objs.size) { s with heap := h' } := fun its r' hz h' c' kp e =>
    ⟨.ref s.heap.objs.size, _, I.laid (t' := s.toks) kp (Nat.le_refl _) (show ObjOk X.prog X.w _ h' _ (.lst ys) from ⟨hz, its, c', r', e⟩), rfl, q _ (I.hok.fresh (Nat.le_refl _))⟩
  rcases hq with hq | hq
  · obtain ⟨its, r', pl, hz⟩ := I.list hq
    have hlen := r'.length
    obtain ⟨o, ho, hc, n, hd⟩ := pl.isList
    exact call_list_seq p (.inl rfl) ho hc hd (fun h' c' kp e => fin its r' hz h' c' kp e) (by simp only [List.size_toArray] <;> omega)
  · obtain ⟨its, r', pl, hz⟩ := I.tuple hq
    have hlen := r'.length
    obtain ⟨o, ho, hc, n, hd⟩ := pl
    exact call_list_seq p (.inr rfl) ho hc hd (fun h' c' kp e => fin its r' hz h' c' kp e) (by simp only [List.size_toArray] <;> omega)
theorem call_tuple_of : CallR X (.type "tuple") (fun xs H Q => ∃ p ys, xs = [.ref p] ∧ ((SqL X.K H p ys ∧ ∀ l, H l = none → Q (.ref l) (upd H l (.tup ys))) ∨ (SqT X.K H p ys ∧ Q (.ref p) H))) := by
  intro pins s σ H xs us Q I r h
  obtain ⟨p, ys, rfl, h⟩ := h
  obtain ⟨u, rfl, rx⟩ := vals1 r
  cases rx
  rcases h with ⟨hq, q⟩ | ⟨hq, q⟩
  · obtain ⟨its, r', pl, hz⟩ := I.list hq
    have hlen := r'.length
    refine call_tuple_list pl.isList (fun h' kp => ?_) (by simp only [List.size_toArray] <;> omega)
    have I1 : Inv X pins σ H { s with heap := h' } := I.kept (t' := s.toks) kp
    have I2 : Inv X pins σ (upd H h'.objs.size (.tup ys)) { s with heap := h'.push { cls := .type "tuple", data := .seq its.toArray } } :=
      I1.laid (t' := s.toks) (fun b o e => Heap.get?_push_of_some _ e) (Nat.le_refl _) (show ObjOk X.prog X.w _ _ _ (.tup ys) from ⟨⟨hz, new_bare⟩, its, r', IsTup.new _ _⟩)
    exact ⟨.ref h'.objs.size, _, I2, rfl, q _ (I1.hok.fresh (Nat.le_refl _))⟩
  · obtain ⟨its, r', pl, hz⟩ := I.tuple hq
    exact call_tuple_same pl ⟨.ref p, H, I, rfl, q⟩
def tyV (K : PySem.W.Frag) (T : String) (x : V) (H : Hp) : Prop := match x with
  | .str _ => T = "str"
  | .int _ => T = "int"
  | .ref p => (T = "list" ∧ ∃ xs, SqL K H p xs) ∨ (T = "tuple" ∧ ((∃ o, K.lookup p = some o ∧ o.cls = .type "tuple" ∧ o.dict = none) ∨ ∃ xs, H p = some (.tup xs))) ∨
      (T = "dict" ∧ ((∃ kvs, H p = some (.dK kvs)) ∨ ∃ kvs, H p = some (.dT kvs))) ∨ (T = "set" ∧ ∃ S n, H p = some (.set S n))
  | _ => False
theorem tyV_is {pins : List (Addr × Obj)} {σ : St} {H : Hp} {s : Shared} {T : String} {x : V} {v : Value} (I : Inv X pins σ H s) (r : RelV x v) (ty : tyV X.K T x H) :
    s.TypeIs v T ∧ ∀ a, v = .ref a → ∃ ob, s.heap.get? a = some ob ∧ ob.dict = none := by
  cases x with
  | str z =>
    obtain ⟨t, rfl⟩ := r
    cases (show T = "str" from ty)
    exact ⟨typeIs_str s z t, fun _ e => nomatch e⟩
  | int i =>
    obtain ⟨t, rfl⟩ := r
    cases (show T = "int" from ty)
    exact ⟨typeIs_int s i t, fun _ e => nomatch e⟩
  | ref p =>
    cases r
    rcases ty with ⟨rfl, xs, hq⟩ | ⟨rfl, ⟨o, hk, hc, hd⟩ | ⟨xs, hk⟩⟩ | ⟨rfl, hk⟩ | ⟨rfl, S, n, hk⟩
    · obtain ⟨its, _, pl, _⟩ := I.list hq
      refine ⟨pl.isList.typeIs, fun a e => ?_⟩
      cases e
      obtain ⟨o, n, e, c, hd, _⟩ := pl
      exact ⟨o, e, hd⟩
    · refine ⟨⟨o, I.kIn p o hk, hc⟩, fun a e => ?_⟩
      cases e
      exact ⟨o, I.kIn _ o hk, hd⟩
    · obtain ⟨nb, _, _, o, e, c, _⟩ := I.hok p _ hk
      exact ⟨⟨o, e, c⟩, fun a z => by cases z; exact ⟨o, e, nb.2 o e⟩⟩
    · have z : ∃ o, s.heap.get? p = some o ∧ o.ExactDict := by
        rcases hk with ⟨kvs, hk⟩ | ⟨kvs, hk⟩
        · obtain ⟨_, _, _, _, o, _, _, e, ex, _⟩ := I.hok p _ hk
          exact ⟨o, e, ex⟩
        · obtain ⟨_, _, _, _, o, _, _, e, ex, _⟩ := I.hok p _ hk
          exact ⟨o, e, ex⟩
      obtain ⟨o, e, ex⟩ := z
      refine ⟨⟨o, e, ex.1⟩, fun a e2 => ?_⟩
      cases e2
      exact ⟨o, e, ex.2.1⟩
    · obtain ⟨o, _, _, _, e, ex, _⟩ := I.hok p _ hk
      refine ⟨⟨o, e, ex.1⟩, fun a e2 => ?_⟩
      cases e2
      exact ⟨o, e, ex.2.1⟩
  | _ => exact False.elim ty
def tBM (K : PySem.W.Frag) (T : String) (r : V → List V → Hp → VK → Prop) (to : TE) (t : TA) : TE := fun σ H Q => to σ H fun x H1 => tyV K T x H1 ∧ t σ H1 fun xs H2 => r x xs H2 Q
variable {o e : Expr} {es : List Expr} {to : TE} {t : TA} {name : Str} {apos cpos : Pos} {T id : String} {r : V → List V → Hp → VK → Prop}
theorem pe_bm (pa : PlainAttrs T) (slot : Slot T name id) (hty : typeOf (.builtin id) = pure (.type "method_descriptor")) (hm : MtR X id r) (ho : PE X o to) (ha : PA X (e :: es) t)
    (hbase : attributeBase o name X.env (eval o X.env) = eval o X.env := by rfl)
    (hfew : ((backTo cpos (starEach (e :: es) X.env)).all (fun x => !x.1) && (backToKw cpos (keywordEach [] X.env)).all (fun x => x.1.isSome)
      && decide ((e :: es).length + ([] : List Keyword).length + (if ([] : List Keyword).isEmpty then 0 else 1) < 30)) = true := by rfl)
    (hline : (apos.endLine == cpos.line) = true := by rfl) (hs : starEach (e :: es) X.env = (false, eval e X.env) :: starEach es X.env := by rfl) (hplain : (backTo cpos (starEach es X.env)).any (·.1) = false := by rfl) :
    PE X (.Call (.Attribute o name apos) (e :: es) [] cpos) (tBM X.K T r to t) := by
  intro pins s σ H Q I h
  refine wpAny_Call_method_late hbase hfew hline rfl (thn (ho pins s σ H _ I h) fun v s1 ⟨x, H1, I1, r1, ty, q1⟩ => ?_)
  obtain ⟨h1, h2⟩ := tyV_is I1 r1 ty
  refine ⟨T, id, pa, slot, hty, h1, h2, ?_⟩
  have hA := ha cpos pins s1 σ H1 _ I1 q1
  rw [hs] at hA ⊢
  refine Calls.callWith_builtin (by show (false || (backTo cpos (starEach es X.env)).any (·.1)) = false; rw [hplain] <;> rfl) (Calls.evalArgs_plain ?_)
  exact thn hA fun us s2 ⟨vs, H2, I2, r2, q2⟩ => hm pins s2 σ H2 x vs v us Q I2 r1 r2 q2
/- xs.append(e), list.index on a module's tuple .. are MtR facts of 06m -/
end
end L2
namespace L2
open PySem PySem.Spec PyProof.Rows
def MtM (X : Cx) (id : String) (r : V → List V → Hp → VK → Prop) : Prop :=
  ∀ (pins : List (Addr × Obj)) (s : Shared) (σ : St) (H : Hp) (x : V) (xs : List V) (v : Value) (us : List Value) (Q : VK), Inv X pins σ H s → RelV x v → Vals xs us → r x xs H Q →
    wpAny (model X.prog X.w) X.A (call (.builtin id) (v :: us)) (EP X pins σ Q) X.xe s
theorem Vals.one : ∀ {x : V} {us : List Value}, Vals [x] us → ∃ u, us = [u] ∧ RelV x u
  | _, _, .cons r .nil => ⟨_, rfl, r⟩
section
variable {X : Cx} {pins : List (Addr × Obj)} {σ : St} {H : Hp} {s : Shared} {l b : Addr} {xs ys zs : List V}
theorem Inv.lset {its its' : List Value} {n : Nat} {f : Array Value → Array Value} {t' : Nat} (I : Inv X pins σ H s) (hH : H l = some (.lst xs))
    (e : s.heap.get? l = some { cls := .type "list", data := .seq its.toArray n }) (hf : f its.toArray = its'.toArray) (hv : Vals ys its') (hz : ys.length ≤ sizeLine) :
    Inv X pins σ (upd H l (.lst ys)) { s with heap := s.heap.update l (Obj.mapSeq f), toks := t' } := by
  have q := PySem.IsL.update e f
  rw [hf] at q
  refine I.write (x := l) (e := l) (by rw [hH]; exact trivial) (.inl rfl) (fun b' u hb hu => (Heap.get?_update_other s.heap (Obj.mapSeq f) (Ne.symm hb)).trans hu) ⟨_, q⟩ ?_
  exact ⟨hz, its', _, hv, q⟩
theorem Inv.lnew {its : List Value} {t' : Nat} (I : Inv X pins σ H s) (hv : Vals ys its) (hz : ys.length ≤ sizeLine) :
    Inv X pins σ (upd H s.heap.objs.size (.lst ys)) { s with heap := s.heap.push { cls := .type "list", data := .seq its.toArray }, toks := t' } :=
  I.laid (fun _ _ q => Heap.get?_push_of_some _ q) (Nat.le_refl _) ⟨hz, its, 0, hv, Heap.get?_push_size _ rfl⟩
theorem Inv.fresh (I : Inv X pins σ H s) : H s.heap.objs.size = none := I.hok.fresh (Nat.le_refl _)
theorem Inv.lstM (I : Inv X pins σ H s) (hH : H l = some (.lst xs)) : xs.length ≤ sizeLine ∧ ∃ (its : List Value) (n : Nat), Vals xs its ∧ xs.length = its.length ∧ s.heap.get? l = some { cls := .type "list", data := .seq its.toArray n } := by
  obtain ⟨z, its, n, r, e⟩ := I.hok l _ hH
  exact ⟨z, its, n, r, r.length, e⟩
end
section
variable {X : Cx}
def rAppend : V → List V → Hp → VK → Prop := fun x vs H Q => ∃ l xs y, x = .ref l ∧ vs = [y] ∧ H l = some (.lst xs) ∧ xs.length < sizeLine ∧ Q .non (upd H l (.lst (xs ++ [y])))
theorem mt_append : MtM X "list.append" rAppend := by
  intro pins s σ H x vs v us Q I rx rv h
  obtain ⟨l, xs, y, rfl, rfl, hH, hz, q⟩ := h
  cases rx
  obtain ⟨u, rfl, ru⟩ := rv.one
  obtain ⟨z, its, n, r, hl, e⟩ := I.lstM hH
  refine call_meets F.slot_list_append ⟨_, e, rfl⟩ F.entry_list_append (F.args_list_append_2 _ _) (PySem.list_append l its.toArray n u (by rw [List.size_toArray]; omega)) ⟨e, ?_⟩
  refine ⟨.non, _, I.lset (its' := its ++ [u]) hH e (by simp) (r.append (.cons ru .nil)) ?_, rfl, q⟩
  rw [List.length_append, List.length_singleton]
  omega
def rCat : R2 := fun x y H Q => ∃ l b xs zs, x = .ref l ∧ y = .ref b ∧ H l = some (.lst xs) ∧ H b = some (.lst zs) ∧ xs.length + zs.length ≤ sizeLine ∧ ∀ p, H p = none → Q (.ref p) (upd H p (.lst (xs ++ zs)))
theorem op_cat : OpR X (binaryOp .Add) rCat := by
  intro pins s σ H x y v u Q I rx ry h
  obtain ⟨l, b, xs, zs, rfl, rfl, hH, hB, hz, q⟩ := h
  cases rx
  cases ry
  obtain ⟨z, its, n, r, hl, e⟩ := I.lstM hH
  obtain ⟨z2, its2, n2, r2, hl2, e2⟩ := I.lstM hB
  refine PySem.P.add_list e e2 ?_ (by rw [List.size_toArray, List.size_toArray]; omega)
  have ea : its.toArray ++ its2.toArray = (its ++ its2).toArray := by simp
  rw [ea]
  exact ⟨.ref _, _, I.lnew (t' := s.toks) (r.append r2) (by rw [List.length_append]; omega), rfl, q _ I.fresh⟩
end
section
variable {prog : Program} {w : World} {A : Around} {E : Value → Shared → Prop} {s : Shared}
set_option maxRecDepth 100000 in
end
section
variable {X : Cx}
end
end L2
namespace Att
open PySem PySem.W PySem.Calls PyProof.Rows
theorem ints_of_wellAll {P : Params} {h : Heap} : ∀ (ns : List Int) (vs : List Value), WellAll P h vs (ns.map WData.int) → IntsAre vs ns := by
  intro ns
  induction ns with
  | nil =>
    intro vs w
    rw [List.map_nil] at w
    cases w
    exact .nil
  | cons n ns ih =>
    intro vs w
    rw [List.map_cons] at w
    cases w with
    | cons a b =>
      cases a
      exact .cons _ _ (ih _ b)
theorem script_of {l : OpenLaw} {n : Nat} (hn : l.most = some n) {P : Params} {h : Heap} {args : List WData} {vals : List Value}
    (hpre : l.row.toRowW.claim.pre args = true) (hwl : WellAll P h vals args) :
    ∃ a vs ns, vals = [Value.ref a] ∧ args = [WData.list (ns.map WData.int)] ∧ h.get? a = some { cls := .type "list", data := .seq vs.toArray } ∧ IntsAre vs ns ∧ ns.length ≤ n := by
  have hsh : WShape.hasAll [] args [.list .int] = true := (pre_splitW hpre).1
  have hc : l.pre.holds [] { args := args } = true := (pre_splitW hpre).2
  obtain ⟨d, r, rfl, h1, h2⟩ := hasAllW_cons hsh
  obtain rfl := hasAllW_nil h2
  obtain ⟨xs, rfl, h3⟩ := hasW_list h1
  obtain ⟨ns, rfl⟩ := items_int h3
  have hlen : ns.length ≤ n := by
    unfold OpenLaw.pre at hc
    have h4 : (WTm.not (.lt (.lit (.int (n : Int))) (.len (.arg 0)))).holds [] { args := [.list (ns.map .int)] } = true := by
      have h4 := (holds_andW hc).1
      rw [hn] at h4
      exact h4
    have h5 := condW_of h4 (w_not (w_lt w_lit (w_len_list (w_arg rfl))))
    rw [List.length_map] at h5
    refine Nat.le_of_not_lt fun q => ?_
    have q' : (n : Int) < ((ns.length : Nat) : Int) := by omega
    first
      | (rw [decide_eq_true q'] at h5; exact absurd h5 (by decide))
      | (simp at h5; omega)
  cases hwl with
  | cons w1 w2 =>
    cases w2
    cases w1 with
    | list ho hall => exact ⟨_, _, ns, rfl, rfl, ho, ints_of_wellAll ns _ hall, hlen⟩
theorem post_true (l : OpenLaw) (args : List WData) : l.row.toRowW.claim.post args (.bool true) args = true :=
  postW_of (r := l.row.toRowW) (X := (true == true))
    (show WShape.has [] (.bool true) .bool = true by first | rfl | decide | simp [WShape.has, WShape.arms, WShape.armsAll])
    (show (WTm.eq .res (.lit (.bool true))).value [] { args := args, res := some (.bool true), after := args } = some (.bool (true == true)) from w_eq_bool (w_res rfl) w_lit) rfl
theorem attach_call {l : OpenLaw} {n : Nat} {q : Program} {loose : List Str} {XP : (Str → Option Value) → Heap → Prop} {YP : World → Heap → Prop} {d : DefRec}
    (hn : l.most = some n) (hdf : d.params.defaults = [])
    (call : ∀ (w : World) (s₀ s₁ : Shared) (mg mb : Str → Option Value) (fa : Addr) (o : Obj) (pm cd doc : Value) (a : Addr) (vs : List Value) (ns : List Int),
      Ground q loose [] XP w s₀ mg mb s₁.heap → YP w s₁.heap →
      s₁.heap.get? fa = some o → o.data = .func (docDef d.name d.params d.body d.scope pm cd doc) → s₁.heap.CodeRec cd d.name → mg d.name = some (.ref fa) →
      s₁.heap.get? a = some { cls := .type "list", data := .seq vs.toArray } → IntsAre vs ns → ns.length ≤ n → s₁.gens = #[] →
      codeAny (model l.prog w) callerA (.call (.ref fa) ⟨[.ref a], []⟩) (fun r s' => r = .ok (.ret (.bool true)) ∧ OldK s₁.heap s'.heap ∧ s'.os = s₁.os ∧ AllBare s'.gens) s₁) :
    WalkO q loose XP YP l.row.toRowW d [] (fun f vs => PySem.call f vs) := by
  intro w s₀ s₁ mg mb G Y fa o pm cd doc dV kV ho hd hcd hD hmg hg args vals as hpre hlay hrd hwl hlo
  obtain rfl : dV = .none := Dflts.none hD hdf
  obtain rfl : kV = .none := Dflts.noKw hD
  obtain ⟨a, vs, ns, rfl, rfl, hobj, hints, hlen⟩ := script_of hn hpre hwl
  refine enter_call (codeAny_mono (call w s₀ s₁ mg mb fa o pm cd doc a vs ns G Y ho (fd_plain hd) hcd hmg hobj hints hlen hg) fun r s' hq => ?_)
  obtain ⟨rfl, h2, h3, h4⟩ := hq
  exact ⟨.inl ⟨.bool true, .bool true, [], rfl, fun _ => rfl, .bool true, post_true l _, fun _ => ⟨List.Pairwise.nil, fun _ hm => (nomatch hm)⟩⟩, h2, h3, h4⟩
section
variable {prog : Program} {w : World} {A : Around} {E : Value → Shared → Prop} {s : Shared} {K : Frag}
def ledger (h : Heap) (L d : Addr) : List (Addr × Obj) := (List.range h.objs.size).filterMap fun a => if a = L ∨ a = d then none else (h.get? a).map fun o => (a, o)
end
end Att
namespace L2
open PySem PySem.Spec PyProof.Rows
theorem vals_ints : ∀ {vs : List Value} {ns : List Int}, IntsAre vs ns → Vals (ns.map V.int) vs
  | _, _, .nil => .nil
  | _, _, .cons n t h => .cons ⟨t, rfl⟩ (vals_ints h)
def Only (H : Hp) : Prop := ∀ b, H b = none ∨ ∃ o xs, H b = some (.frz o (.lst xs))
theorem law_call {P : Program} {w : World} {K : PySem.W.Frag} {mg mb : Str → Option Value} {CX : CXT} {k : Nat} {fa a : Addr} {fd : FuncData} {x : Str} {sp : Sp} {s₁ : Shared} {vs : List Value} {ns : List Int}
    (KX : K.In s₁.heap) (hns : s₁.heap.Ns mainGlobals mg) (hb : s₁.heap.Ns builtinsNs mb) (hbb : ∀ x : Str, x ≠ "__name__" → mb x = bootBuiltins x) (hlim : s₁.heap.NoLimit) (hg : s₁.gens = #[])
    (ha : s₁.heap.get? a = some { cls := .type "list", data := .seq vs.toArray }) (hi : IntsAre vs ns) (hl : ns.length ≤ sizeLine) (hr : Room k callerA)
    (F : ∀ base : Heap, K.In base → base.Ns mainGlobals mg → FnOk P w K mg base CX k fa fd [x] sp) (hbind : ∀ (s : Shared) (u : Value), BindsTo s fd ⟨[u], []⟩ [(x, u)])
    (hsp : ∀ H : Hp, Only H → SqL K H a (ns.map V.int) → sp [.ref a] H (fun v _ => v = .bl true) fun _ _ _ => False)
    (hCX : ∀ H e s', CX [] H s₁ (fun _ _ _ => False) e s' → False) :
    codeAny (model P w) callerA (.call (.ref fa) ⟨[.ref a], []⟩) (fun r s' => r = .ok (.ret (.bool true)) ∧ OldK s₁.heap s'.heap ∧ s'.os = s₁.os ∧ AllBare s'.gens) s₁ := by
  have rv := vals_ints hi
  have lenV := hi.length
  -- from an abstract heap in which nothing but the script may be tracked
  have core : ∀ H : Hp, Only H → SqL K H a (ns.map V.int) → HOk P w H s₁.heap → (∀ b, H b ≠ none → b = a) → (H a ≠ none → K.lookup a = none) →
      codeAny (model P w) callerA (.call (.ref fa) ⟨[.ref a], []⟩) (fun r s' => r = .ok (.ret (.bool true)) ∧ OldK s₁.heap s'.heap ∧ s'.os = s₁.os ∧ AllBare s'.gens) s₁ := by
    intro H hO hS hok hA hK
    have base_of : ∀ {b : Addr} {o : Obj}, s₁.heap.get? b = some o → H b = none → (hidT s₁.heap H).get? b = some o := fun e n => hidT_get e n
    have noA : ∀ {b : Addr} {o : Obj} {es : Array DictEntry} {ep : Nat}, s₁.heap.get? b = some o → o.data = .dict es ep → H b = none := fun {b o es ep} e d => by
      cases q : H b with
      | none => rfl
      | some u =>
        have e' : b = a := hA b (by rw [q]; simp)
        subst e'
        rw [ha] at e; cases e
        have d' : Data.seq vs.toArray _ = Data.dict es ep := d
        cases d'
    have nsK : ∀ {b : Addr} {m : Str → Option Value}, s₁.heap.Ns b m → (hidT s₁.heap H).Ns b m := fun {b m} ⟨o, es, ep, e, d, r⟩ => ⟨o, es, ep, base_of e (noA e d), d, r⟩
    have hKb : K.In (hidT s₁.heap H) := fun b o e => base_of (KX b o e) (by
      cases q : H b with
      | none => rfl
      | some u =>
        have e' : b = a := hA b (by rw [q]; simp)
        subst e'
        rw [hK (by rw [q]; simp)] at e; cases e)
    have hM : Mod K mg (hidT s₁.heap H) := ⟨hKb, nsK hns, ⟨mb, nsK hb, hbb⟩, let ⟨mc, h1, h2⟩ := hlim; ⟨mc, nsK h1, h2⟩⟩
    have e0 : Env0 P w K mg (hidT s₁.heap H) callerA [] s₁ H := ⟨rfl, hM, fun b o e => of_hidT e, Nat.le_of_eq (hidT_size _ _), trivial, fun b hb => absurd (show b ∈ ([] : List Addr) from hb) (by simp), hok, .of_eq hg⟩
    refine codeAny_mono ((F _ hKb (nsK hns)).run callerA [] s₁ H ⟨[.ref a], []⟩ [.ref a] [.ref a] _ _ hr e0 (hbind s₁ (.ref a)) (.cons rfl .nil) (hsp H hO hS)) fun r s' h => ?_
    cases r with
    | error e => exact (hCX H e s' h).elim
    | ok fl =>
      cases fl with
      | next => exact False.elim h
      | brk => exact False.elim h
      | cont => exact False.elim h
      | ret u =>
        obtain ⟨v, H', os, bare, un, hok', r', q⟩ := h
        have q' : v = .bl true := q
        subst q'
        obtain rfl : u = Value.bool true := r'
        refine ⟨rfl, OldK.of_keep fun b o e => ?_, os, bare⟩
        cases q : H b with
        | none => exact un.keep b o e q (by intro z; exact absurd (show b ∈ ([] : List Addr) from z) (by simp)) (by simp)
        | some u =>
          rcases hO b with z | ⟨ob, xs, z⟩
          · rw [q] at z; cases z
          · have z2 := un.frzs b ob _ z
            obtain ⟨e1, _⟩ := hok b _ z
            obtain ⟨e2, _⟩ := hok' b _ z2
            rw [e] at e1; cases e1
            exact e2
  cases hk : K.lookup a with
  | some o =>
    -- the script is one of the module's own objects
    have e := KX a o hk
    rw [ha] at e
    cases e
    refine core (fun _ => none) (fun _ => .inl rfl) (.inr ⟨_, vs.toArray, _, hk, rfl, rfl, rfl, by rw [List.size_toArray, lenV]; exact hl, by simpa using rv⟩) (fun b u z => by have z' : (none : Option HO) = some u := z; cases z') (fun b z => absurd rfl z) fun z => absurd rfl z
  | none =>
    refine core (fun b => if b = a then some (.frz { cls := .type "list", data := .seq vs.toArray } (.lst (ns.map V.int))) else none) (fun b => ?_) (.inl (.inr ⟨{ cls := .type "list", data := .seq vs.toArray }, if_pos rfl⟩)) (fun b u z => ?_) (fun b z => ?_) fun _ => hk
    · by_cases hb : b = a
      · exact .inr ⟨_, _, if_pos hb⟩
      · exact .inl (if_neg hb)
    · by_cases hb : b = a
      · have z' := (if_pos hb).symm.trans z
        cases z'
        subst hb
        exact ⟨ha, by rw [List.length_map]; exact hl, vs, _, rv, ha⟩
      · have z' := (if_neg hb).symm.trans z
        cases z'
    · by_cases hb : b = a
      · exact hb
      · exact absurd (if_neg hb) z
end L2
namespace L2
open PySem PySem.Spec PyProof.Rows
theorem walk_of {l : PySem.W.OpenLaw} {n k : Nat} {q : Program} {loose : List Str} {XP : (Str → Option Value) → Heap → Prop} {YP : World → Heap → Prop} {d : DefRec} {K : Params → PySem.W.Frag} {CX : World → CXT} {sp : World → Sp} {x : Str}
    (hn : l.most = some n) (hn2 : n ≤ sizeLine) (hdf : d.params.defaults = []) (hr : Room k callerA)
    (hY : ∀ (w : World) (h : Heap), YP w h → (K w.params).In h)
    (F : ∀ (w : World) (mg : Str → Option Value) (fa : Addr) (h : Heap), (K w.params).In h → h.Ns mainGlobals mg → mg d.name = some (.ref fa) →
      ∃ fd : FuncData, (∀ (s : Shared) (u : Value), BindsTo s fd ⟨[u], []⟩ [(x, u)]) ∧
        ∀ base : Heap, (K w.params).In base → base.Ns mainGlobals mg → FnOk l.prog w (K w.params) mg base (CX w) k fa fd [x] (sp w))
    (hsp : ∀ (w : World) (H : Hp) (a : Addr) (ns : List Int), ns.length ≤ n → Only H → SqL (K w.params) H a (ns.map V.int) → sp w [.ref a] H (fun v _ => v = .bl true) fun _ _ _ => False)
    (hCX : ∀ (w : World) (H : Hp) (s : Shared) (e : Value) (s' : Shared), CX w [] H s (fun _ _ _ => False) e s' → False) :
    PySem.W.WalkO q loose XP YP l.row.toRowW d [] (fun f vs => PySem.call f vs) := by
  refine Att.attach_call hn hdf fun w s₀ s₁ mg mb fa o pm cd doc a vs ns G Y ho hd hcd hmg hobj hints hlen hg => ?_
  have KX := hY w _ Y
  obtain ⟨fd, hb, hF⟩ := F w mg fa _ KX G.T.g hmg
  exact law_call KX G.T.g G.T.b G.T.builtins G.T.nolimit hg hobj hints (Nat.le_trans hlen hn2) hr hF hb (fun H hO hS => hsp w H a ns hlen hO hS) fun H e s' => hCX w H s₁ e s'
end L2
namespace L2
open PySem PySem.Spec PyProof.Rows
def inClass (s : Stmt) (j : Nat) : Stmt := match s with
  | .ClassDef _ _ _ body _ _ _ _ _ _ _ => body.getD j (.Pass ⟨0, 0, 0, 0⟩)
  | _ => .Pass ⟨0, 0, 0, 0⟩
def defArgs (s : Stmt) : Arguments := match s with
  | .FunctionDef _ a _ _ _ _ _ _ _ _ => a
  | _ => { posonlyargs := [], args := [], vararg := none, kwonlyargs := [], kw_defaults := [], kwarg := none, defaults := [] }
def defBody (s : Stmt) : List Stmt := match s with
  | .FunctionDef _ _ b _ _ _ _ _ _ _ => b
  | _ => []
def defScope (s : Stmt) : Scope := match s with
  | .FunctionDef _ _ _ _ _ _ sc _ _ _ => sc
  | _ => { kind := .function, names := [], isGenerator := false, isCoroutine := false }
abbrev CX0 : CXT := fun _ _ _ _ _ _ => False
abbrev E0 : XK := fun _ _ _ => False
theorem pass0 {X : Cx} : Passes CX0 X E0 := fun _ _ _ _ _ _ _ h => h.elim
structure Fun (K : PySem.W.Frag) (x qual : Str) (st : Stmt) (f : Addr) (fd : FuncData) : Prop where
  ex : ∃ (oc : Value) (od : Option Addr) (kV doc pm : Value) (an : Option Addr) (cdv ct : Value) (osl : Array (Option Value)),
    fd = PySem.W.fnOf x qual (defArgs st) (defBody st) (defScope st) .none kV doc pm an cdv ct ∧ K.lookup f = some ⟨oc, od, .func fd, osl⟩ ∧ PySem.W.codeIn K cdv qual = true
  kp : PySem.W.keepIn K (.ref f) = true
section
variable {P : Program} {w : World} {K : PySem.W.Frag} {mg : Str → Option Value} {base : Heap}
theorem Fun.ok {x qual : Str} {st : Stmt} {f : Addr} {fd : FuncData} {N ps : List Str} {k : Nat} {sp : Sp} (F : Fun K x qual st f fd) (S : FnScope N ps (defScope st)) (len : ∀ vs H Q E, sp vs H Q E → vs.length = ps.length)
    (hbody : ∀ (cdv : Value) (A : Around) (outer : List Env) (s : Shared) (H : Hp) (vs : List V) (Q : VK) (E : XK), Room k (A.deeper (envOfC qual (defScope st) s.heap.objs.size f cdv)) → sp vs H Q E →
      ∃ t, PSs (cxOf CX0 P w K mg base N qual (defScope st) f cdv A outer s H E).nox (defBody st) t ∧ t { nx := fun _ H' => Q .non H', rt := Q } (start N vs) H) : FnOk P w K mg base CX0 (k + 1) f fd ps sp := by
  obtain ⟨oc, od, kV, doc, pm, an, cdv, ct, osl, rfl, lk, hcd⟩ := F.ex
  refine fn_of lk hcd S len fun A outer s H vs Q E hr hsp => ?_
  obtain ⟨t, h, q⟩ := hbody cdv A outer s H vs Q E hr hsp
  exact ⟨t, h.nox, q⟩
theorem Fun.binds {x qual : Str} {st : Stmt} {f : Addr} {fd : FuncData} {ps : List Str} (F : Fun K x qual st f fd)
    (h : ∀ (kV doc pm : Value) (an : Option Addr) (cdv ct : Value) (us : List Value), us.length = ps.length → bindArgs (PySem.W.fnOf x qual (defArgs st) (defBody st) (defScope st) .none kV doc pm an cdv ct) ⟨us, []⟩ = pure (ps.zip us)) : Binds K fd ps [] := by
  obtain ⟨oc, od, kV, doc, pm, an, cdv, ct, osl, rfl, lk, hcd⟩ := F.ex
  exact .all (h kV doc pm an cdv ct)
theorem fun_mk {x qual : Str} {st : Stmt} {f : Addr} {oc : Value} {od an : Option Addr} {osl : Array (Option Value)} {kV doc pm cdv ct : Value} (l : K.lookup f = some ⟨oc, od, .func (PySem.W.fnOf x qual (defArgs st) (defBody st) (defScope st) .none kV doc pm an cdv ct), osl⟩)
    (c : PySem.W.codeIn K cdv qual = true) (k : PySem.W.keepIn K (.ref f) = true) : Fun K x qual st f (PySem.W.fnOf x qual (defArgs st) (defBody st) (defScope st) .none kV doc pm an cdv ct) := ⟨⟨oc, od, kV, doc, pm, an, cdv, ct, osl, rfl, l, c⟩, k⟩
end
section
variable {X : Cx}
theorem pv (i : Nat) {x : Str} {pos : Pos} (hN : X.N[i]? = some x := by rfl) (hv : Vis X.env.scope x := by first | exact Or.inl rfl | exact Or.inr (Or.inl rfl) | exact Or.inr (Or.inr rfl)) (hd : (x == ("__debug__" : Str)) = false := by decide)
    (hcd : (x == ("__classdict__" : Str)) = false := by decide) : PE X (.Name x pos) (tVar i) := pe_var hN hv hd hcd
end
def Same (H H' : Hp) : Prop := ∀ b o, H b = some o → H' b = some o
theorem Same.refl (H : Hp) : Same H H := fun _ _ h => h
theorem Same.trans {H H1 H2 : Hp} (a : Same H H1) (b : Same H1 H2) : Same H H2 := fun c o h => b c o (a c o h)
theorem Same.free {H H' : Hp} (e : Same H H') {l : Addr} (h : H' l = Option.none) : H l = Option.none := by
  cases q : H l with
  | none => rfl
  | some o =>
    rw [e l o q] at h
    cases h
theorem Same.seq {K : PySem.W.Frag} {H H' : Hp} {a : Addr} {xs : List V} (e : Same H H') (h : SqL K H a xs) : SqL K H' a xs := by
  rcases h with (h | ⟨o, h⟩) | h
  · exact .inl (.inl (e _ _ h))
  · exact .inl (.inr ⟨o, e _ _ h⟩)
  · exact .inr h
end L2
set_option Elab.async false
set_option linter.all false
set_option maxRecDepth 100000
set_option maxHeartbeats 4000000
namespace L2
open PySem PySem.Spec PyProof.Rows
theorem loop_comp {prog : Program} {w : World} {A : Around} {R : Result → Shared → Prop} {s : Shared} {elt target iter : Expr} {ifs : List Expr} {scope : Scope} {pos : Pos} {it acc : Value} {env : Env} (I : Nat → Shared → Prop)
    (turn : ∀ n s, I n s → wpAny (model prog w) A (pyNext it) (fun r s₁ => match r with
      | none => R (.ok .next) s₁
      | some v => wpAny (model prog w) A (letOwnedTupleGo target it v) (fun _ s₁' => wpAny (model prog w) A (assign target env v) (fun _ s₂ =>
          wpAny (model prog w) A (forIn ifs true fun c r => if r = true then do let ok ← isTrue c env (eval c env); pure (ForInStep.yield ok) else pure (ForInStep.yield r)) (fun ok s₃ =>
            if ok = true then wpAny (model prog w) A (eval elt env) (fun x s₄ =>
              wpAny (model prog w) A (call (.builtin "list.append") [acc, x]) (fun _ s₅ => ∃ m, m < n ∧ I m s₅) (fun _ _ => False) s₄) (fun _ _ => False) s₃
            else ∃ m, m < n ∧ I m s₃) (fun _ _ => False) s₂) (fun _ _ => False) s₁') (fun _ _ => False) s₁) (fun _ _ => False) s)
    (n : Nat) (h : I n s) :
    codeAny (model prog w) A (.compLoop (.ListComp elt [⟨target, iter, ifs, 0⟩] scope pos) 0 it acc env) R s := by
  refine codeAny_loop rfl I (fun n s hI => ?_) n h
  show wpAny _ A ((compTurn (.ListComp elt [⟨target, iter, ifs, 0⟩] scope pos) 0 it acc env).onRaise (fun x => do noteFrame x env; theTreesLotGoes x)) _ _ s
  refine wpAny_noted ?_
  rw [compTurn_list]
  refine wpAny_bind (wpAny_standAt (wpAny_bind (wpAny_mono (turn n s hI) (fun r s₁ h₁ => ?_) fun _ _ h' => h'.elim)))
  cases r with
  | none => exact wpAny_pure h₁
  | some v =>
    refine wpAny_bind (wpAny_mono h₁ (fun _ s₁' h₁' => ?_) fun _ _ h' => h'.elim)
    refine wpAny_bind (wpAny_mono h₁' (fun _ s₂ h₂ => wpAny_bind (wpAny_mono h₂ (fun ok s₃ h₃ => ?_) fun _ _ h' => h'.elim)) fun _ _ h' => h'.elim)
    cases ok with
    | false => exact wpAny_pure ⟨rfl, h₃⟩
    | true =>
      exact wpAny_bind (wpAny_bind (wpAny_mono h₃ (fun x s₄ h₄ => wpAny_bind (wpAny_mono h₄ (fun _ s₅ h₅ => wpAny_pure (wpAny_pure ⟨rfl, h₅⟩)) fun _ _ h' => h'.elim)) fun _ _ h' => h'.elim))
def clOf (names : List (Str × NameKind)) (env : Env) (cs : List (Str × Addr)) : List (Str × Addr) :=
  names.foldl (fun cs p => if p.2 = .free then (match env.cells.lookup p.1 with | some c => (p.1, c) :: cs | none => cs) else cs) cs
theorem closure_loop {env : Env} : ∀ (names : List (Str × NameKind)) (cs : List (Str × Addr)), (∀ y ∈ names, y.2 = .free → ∃ c, env.cells.lookup y.1 = some c) →
    (forIn names cs fun x r => (if (x.2 == NameKind.free) = true then do let a ← cellOf env x.1; pure (ForInStep.yield ((x.1, a) :: r)) else pure (ForInStep.yield r) : Sem _)) = pure (clOf names env cs)
  | [], cs, _ => by simp [clOf]
  | (n, k) :: r, cs, h => by
    have ih := fun cs => closure_loop r cs fun y hy => h y (List.mem_cons_of_mem _ hy)
    simp only [List.forIn_cons]
    by_cases hk : k = .free
    · subst hk
      obtain ⟨c, e⟩ := h (n, .free) List.mem_cons_self rfl
      have e' : env.cells.lookup n = some c := e
      have ec : cellOf env n = pure c := by unfold cellOf; rw [e']
      simp only [beq_self_eq_true, if_true, ec, pure_bind]
      rw [ih]
      simp [clOf, e']
    · have hb : (k == NameKind.free) = false := by simpa using hk
      simp only [hb, Bool.false_eq_true, if_false, pure_bind]
      rw [ih]
      simp [clOf, hk]
theorem closureFor_eq {scope : Scope} {env : Env} (h : ∀ y ∈ scope.names, y.2 = .free → ∃ c, env.cells.lookup y.1 = some c) : closureFor scope env = pure (clOf scope.names env []) := by
  unfold closureFor
  have := closure_loop scope.names [] h
  simp only [bind_pure]
  exact this
theorem clOf_mem {env : Env} : ∀ (names : List (Str × NameKind)) (cs : List (Str × Addr)) (x : Str) (c : Addr), (x, c) ∈ clOf names env cs → (x, c) ∈ cs ∨ env.cells.lookup x = some c
  | [], cs, x, c, h => .inl h
  | (n, k) :: r, cs, x, c, h => by
    have h' : (x, c) ∈ clOf r env (if k = .free then (match env.cells.lookup n with | some c => (n, c) :: cs | none => cs) else cs) := h
    rcases clOf_mem r _ x c h' with q | q
    · split at q
      · cases e : env.cells.lookup n with
        | none => rw [e] at q; exact .inl q
        | some d =>
          rw [e] at q
          rcases List.mem_cons.mp q with z | z
          · cases z; exact .inr e
          · exact .inl z
      · exact .inl q
    · exact .inr q
theorem clOf_keep {env : Env} : ∀ (names : List (Str × NameKind)) (cs : List (Str × Addr)) (x : Str), (∃ c, (x, c) ∈ cs) → ∃ c, (x, c) ∈ clOf names env cs
  | [], cs, x, h => h
  | (n, k) :: r, cs, x, ⟨c, h⟩ => by
    refine clOf_keep r _ x ?_
    dsimp only
    split
    · split
      · exact ⟨c, List.mem_cons_of_mem _ h⟩
      · exact ⟨c, h⟩
    · exact ⟨c, h⟩
theorem clOf_has {env : Env} : ∀ (names : List (Str × NameKind)) (cs : List (Str × Addr)) (x : Str), (x, NameKind.free) ∈ names → (∃ c, env.cells.lookup x = some c) → ∃ c, (x, c) ∈ clOf names env cs
  | [], _, _, h, _ => by simp at h
  | (n, k) :: r, cs, x, h, ⟨c, e⟩ => by
    rcases List.mem_cons.mp h with z | z
    · have e1 : x = n := congrArg Prod.fst z
      have e2 : NameKind.free = k := congrArg Prod.snd z
      subst e1 e2
      refine clOf_keep r _ x ⟨c, ?_⟩
      dsimp only
      rw [if_pos rfl, e]
      exact List.mem_cons_self
    · exact clOf_has r _ x z ⟨c, e⟩
theorem lookup_of_mem {β : Type} : ∀ (l : List (Str × β)) (x : Str) (c : β), (x, c) ∈ l → ∃ d, l.lookup x = some d
  | (n, d) :: r, x, c, h => by
    cases hx : x == n with
    | true => exact ⟨d, by simp [List.lookup_cons, hx]⟩
    | false =>
      simp only [List.lookup_cons, hx]
      rcases List.mem_cons.mp h with z | z
      · cases z; simp at hx
      · exact lookup_of_mem r x c z
theorem clOf_lookup {names : List (Str × NameKind)} {env : Env} {x : Str} {c : Addr} (h : (clOf names env []).lookup x = some c) : env.cells.lookup x = some c := by
  rcases clOf_mem names [] x c (PySem.mem_of_lookup h) with q | q
  · simp at q
  · exact q
theorem clOf_some {names : List (Str × NameKind)} {env : Env} {x : Str} {c : Addr} (h : (x, NameKind.free) ∈ names) (e : env.cells.lookup x = some c) : (clOf names env []).lookup x = some c := by
  obtain ⟨d, hd⟩ := clOf_has names [] x h ⟨c, e⟩
  obtain ⟨d', hd'⟩ := lookup_of_mem _ _ _ hd
  have := clOf_lookup hd'
  rw [e] at this
  cases this
  exact hd'
theorem lookup_relabel_free {env : Env} : ∀ {names : List (Str × NameKind)} {x : Str}, names.lookup x = some .free →
    (names.map fun (n, k) => if (k == NameKind.free && env.scope.kind == .function && env.kindOf n == some .cell) then (n, NameKind.cell) else (n, k)).lookup x = some .cell ∨
    (names.map fun (n, k) => if (k == NameKind.free && env.scope.kind == .function && env.kindOf n == some .cell) then (n, NameKind.cell) else (n, k)).lookup x = some .free
  | [], _, h => by simp at h
  | (n, k) :: r, x, h => by
    have ih := @lookup_relabel_free env r x
    show List.lookup x ((if (k == NameKind.free && env.scope.kind == .function && env.kindOf n == some .cell) = true then (n, NameKind.cell) else (n, k)) :: _) = _ ∨ List.lookup x ((if (k == NameKind.free && env.scope.kind == .function && env.kindOf n == some .cell) = true then (n, NameKind.cell) else (n, k)) :: _) = _
    by_cases hc : (k == NameKind.free && env.scope.kind == .function && env.kindOf n == some .cell) = true
    · rw [if_pos hc]
      cases hx : x == n with
      | true => left; simp [List.lookup_cons, hx]
      | false =>
        simp only [List.lookup_cons, hx] at h ⊢
        exact ih h
    · rw [if_neg hc]
      cases hx : x == n with
      | true =>
        simp only [List.lookup_cons, hx] at h
        cases h
        right; simp [List.lookup_cons, hx]
      | false =>
        simp only [List.lookup_cons, hx] at h ⊢
        exact ih h
structure CompScope (own : List Str) (caps : List Nat) (N : List Str) (sc scope : Scope) : Prop where
  kind : scope.kind = .function
  nocell : ∀ y ∈ scope.names, y.2 ≠ .cell
  loc : ∀ y ∈ scope.names, y.2 = .local → scope.names.lookup y.1 = some .local
  fr : ∀ y ∈ scope.names, y.2 = .free → sc.names.lookup y.1 = some .cell ∨ sc.names.lookup y.1 = some .free
  cap : ∀ i ∈ caps, i < N.length ∧ scope.names.lookup ((N[i]?).getD Str.empty) = some .free
def cxComp (X : Cx) (own : List Str) (caps : List Nat) (scope : Scope) (s : Shared) (H : Hp) (fp : List Addr) (C : Addr) : Cx :=
  { X with N := own ++ caps.map (fun i => (X.N[i]?).getD Str.empty), s₀ := s, H₀ := H, env := compEnvC scope (clOf scope.names X.env []) C X.env, outer := X.stack, ex := fp, fn := fun _ => false, pn := [], xe := fun _ _ => False }
def tau0 (n : Nat) (caps : List Nat) (σ : St) : St := List.replicate n none ++ caps.map fun i => (σ[i]?).join
section
variable {X : Cx} {pins : List (Addr × Obj)} {σ : St} {H : Hp} {s : Shared}
theorem free_of_kind {scope : Scope} {env : Env} (nc : ∀ y ∈ scope.names, y.2 ≠ .cell) {x : Str} {k : NameKind} (hk : k = .cell ∨ k = .free) (h : (relabel scope env).names.lookup x = some k) : (x, NameKind.free) ∈ scope.names := by
  have hm := PySem.mem_of_lookup h
  obtain ⟨⟨n, k0⟩, hy, e⟩ := List.mem_map.mp hm
  dsimp only at e
  split at e
  · rename_i hc
    simp only [Bool.and_eq_true, beq_iff_eq] at hc
    have e1 : n = x := congrArg Prod.fst e
    subst e1
    rw [hc.1.1] at hy
    exact hy
  · cases e
    rcases hk with z | z
    · subst z; exact absurd rfl (nc _ hy)
    · subst z; exact hy
theorem inv_comp {own : List Str} {caps : List Nat} {scope : Scope} {fp : List Addr} {D C : Addr} {o : Obj} {h1 : Heap} {tk : Nat} (I : Inv X pins σ H s) (S : CompScope own caps X.N X.env.scope scope)
    (f : ∀ b ∈ fp, FpOk X pins H b) (fl : ∀ b ∈ fp, b < s.heap.objs.size) (hD : s.heap.objs.size ≤ D) (hC : s.heap.objs.size ≤ C) (hDC : D ≠ C) (keep : ∀ b o, s.heap.get? b = some o → h1.get? b = some o)
    (hns : h1.Ns C fun _ => none) (hacc : h1.get? D = some o) (ho : ∀ v, o.data ≠ .cell v) :
    Inv (cxComp X own caps scope s H fp C) [(D, o)] (tau0 own.length caps σ) H { s with heap := h1, toks := tk } := by
  have sub : ∀ b ∈ frs X.stack, b < s.heap.objs.size := fun b hb => by
    rcases List.mem_cons.mp (I.stkSub b hb) with e | hb
    · rw [e]; exact I.lt
    · by_cases q : b < s.heap.objs.size
      · exact q
      · exact absurd hb (I.nofs (Nat.le_of_not_lt q))
  refine ⟨⟨I.ok.mod, S.kind, I.ok.glob, I.ok.blt, hC, fun x y c h1 h2 => I.ok.inj x y c (clOf_lookup h1) (clOf_lookup h2), fun x hx => ?_, fun x c z _ => absurd (show false = true from z) Bool.false_ne_true, I.ok.hd, I.ok.frames, .inl rfl,
      fun b hb => ⟨Nat.ne_of_lt (Nat.lt_of_lt_of_le (fl b hb) hC), fun x c e => (f b hb).2.2.2.2.1 x c (clOf_lookup e)⟩, I.bs, Nat.le_trans I.ok.bsz I.sz, fun b ob e hb => ?_, fun b hb hs => ?_, I.stack, I.stkFree⟩,
    rfl, I.bare, Un.kept keep, ⟨_, hns, fun i x v e1 e2 e3 => ?_⟩, fun x c e => ?_, I.hok.fresh hC, fun x c e => I.freeC x c (clOf_lookup e), fun p hp => ?_, I.hok.kept keep, ?_⟩
  · have hm : (x, NameKind.free) ∈ scope.names := by
      rcases hx with hx | hx
      · exact free_of_kind S.nocell (.inl rfl) hx
      · exact free_of_kind S.nocell (.inr rfl) hx
    obtain ⟨c, hc⟩ := I.ok.has x (S.fr _ hm rfl)
    exact ⟨c, clOf_some hm hc⟩
  · rcases (f b hb).2.2.2.1 with z | z
    · exact I.ok.noex b ob e z
    · exact absurd (Nat.lt_of_lt_of_le (Heap.lt_size e) (Nat.le_trans I.ok.bsz z)) (Nat.lt_irrefl _)
  · rcases List.mem_cons.mp (I.stkSub b hs) with e | e
    · exact (f b hb).2.1 e
    · exact (f b hb).2.2.1 e
  · have e2' : (List.replicate own.length (none : Option V) ++ caps.map fun i => (σ[i]?).join)[i]? = some (some v) := e2
    have e1' : (own ++ caps.map (fun i => (X.N[i]?).getD Str.empty))[i]? = some x := e1
    have hi : own.length ≤ i := by
      by_cases q : i < own.length
      · rw [List.getElem?_append_left (by simpa using q), List.getElem?_replicate, if_pos q] at e2'
        cases e2'
      · exact Nat.le_of_not_lt q
    rw [List.getElem?_append_right (by simpa using hi), List.length_replicate, List.getElem?_map] at e2'
    rw [List.getElem?_append_right hi, List.getElem?_map] at e1'
    cases ek : caps[i - own.length]? with
    | none => rw [ek] at e1'; cases e1'
    | some k =>
      rw [ek] at e1' e2'
      have ex : (X.N[k]?).getD Str.empty = x := Option.some.inj e1'
      have ev : (σ[k]?).join = some v := Option.some.inj e2'
      have ev' : σ[k]? = some (some v) := by
        cases q : σ[k]? with
        | none => rw [q] at ev; cases ev
        | some y => rw [q] at ev; exact congrArg some ev
      obtain ⟨hl, hf⟩ := S.cap k (List.mem_of_getElem? ek)
      have eN : X.N[k]? = some x := by
        rw [List.getElem?_eq_getElem hl] at ex ⊢
        exact congrArg some ex
      rw [ex] at hf
      have hm := PySem.mem_of_lookup hf
      have hfr := S.fr _ hm rfl
      obtain ⟨m, _, hl'⟩ := I.loc
      obtain ⟨u, ru, lk⟩ := hl' k x v eN ev' (.inr hfr)
      refine ⟨u, ru, .inr ⟨lookup_relabel_free hf, ?_⟩⟩
      rcases lk with ⟨kl, _⟩ | ⟨_, c, hc, ob, hob, hd⟩
      · have kl' : X.env.scope.names.lookup x = some .local := kl
        rcases hfr with z | z
        · have z' : X.env.scope.names.lookup x = some .cell := z
          rw [z'] at kl'; cases kl'
        · have z' : X.env.scope.names.lookup x = some .free := z
          rw [z'] at kl'; cases kl'
      · exact ⟨c, clOf_some hm hc, ob, keep c ob hob, hd⟩
  · obtain ⟨v, ob, hob, hd⟩ := I.cell x c (clOf_lookup e)
    exact ⟨v, ob, keep c ob hob, hd⟩
  · have e : p = (D, o) := by simpa using (show p ∈ [] ++ [(D, o)] from hp)
    subst e
    refine ⟨hacc, I.hok.fresh hD, hDC, fun z => ?_, ho⟩
    exact absurd (Nat.lt_of_lt_of_le (sub D z) hD) (Nat.lt_irrefl _)
  · show (tau0 own.length caps σ).length = (own ++ caps.map (fun i => (X.N[i]?).getD Str.empty)).length
    simp [tau0]
def PTs (X : Cx) (ifs : List Expr) (t : TT) : Prop :=
  ∀ (pins : List (Addr × Obj)) (s : Shared) (σ : St) (H : Hp) (Q : Bool → Hp → Prop), Inv X pins σ H s → t σ H Q →
    wpAny (model X.prog X.w) X.A (forIn ifs true fun c r => if r = true then do let ok ← isTrue c X.env (eval c X.env); pure (ForInStep.yield ok) else pure (ForInStep.yield r)) (TP X pins σ Q) X.xe s
def tYes : TT := fun _ H Q => Q true H
theorem pts_nil : PTs X [] tYes := fun _ s σ H Q I h => wpAny_tests_nil ⟨H, I, h⟩
def tComp (n : Nat) (caps : List Nat) (wi : TI) (g : TG) (tc : TT) (te : TE) : TE := fun σ H Q => wi σ H fun J H1 => ∃ W : Nat → Nat → St → List V → Hp → Prop, (∃ m, W 0 m (tau0 n caps σ) [] H1) ∧ ∀ i m τ acc H, W i m τ acc H →
  (J.stop i H ∧ acc.length ≤ sizeLine ∧ ∀ p, H p = none → Q (.ref p) (upd H p (.lst acc))) ∨
  (J.go i H ∧ acc.length < sizeLine ∧ ∀ x H', J.yld i H x H' → g x τ H' fun τ2 H2 => tc τ2 H2 fun b H3 => if b = true then te τ2 H3 fun y H4 => ∃ m', m' < m ∧ W (i + 1) m' τ2 (acc ++ [y]) H4 else ∃ m', m' < m ∧ W (i + 1) m' τ2 acc H3)
theorem HOk.track {P : Program} {w : World} {H : Hp} {h : Heap} {a : Addr} {o : HO} (x : HOk P w H h) (hn : H a = none) (new : ObjOk P w (upd H a o) h a o) : HOk P w (upd H a o) h := fun b u e => by
  by_cases hb : b = a
  · subst hb; rw [upd_same] at e; cases e; exact new
  · rw [upd_ne hb] at e
    exact (x b u e).stay (fun c v _ q => q) (fun c q => by rw [upd_ne (ne_of_none q hn)]; exact q) fun c xs q => by rw [upd_ne (ne_of_none q hn)]; exact q
theorem pe_comp {own : List Str} {caps : List Nat} {elt tg iter : Expr} {ifs : List Expr} {scope : Scope} {pos : Pos} {wi : TI} {g : TG} {tc : TT} {te : TE} (hc : X.calm = true) (S : CompScope own caps X.N X.env.scope scope) (hi : PI X tg iter wi)
    (hg : ∀ s H fp C, PG (cxComp X own caps scope s H fp C) tg g) (ht : ∀ s H fp C, PTs (cxComp X own caps scope s H fp C) ifs tc) (he : ∀ s H fp C, PE (cxComp X own caps scope s H fp C) elt te)
    (hs : ∀ x, foldedSetIterable iter X.env x = pure x := by intro _; rfl) : PE X (.ListComp elt [⟨tg, iter, ifs, 0⟩] scope pos) (tComp own.length caps wi g tc te) := by
  intro pins s σ H Q I h
  rw [eval_ListComp]
  refine wpAny_comprehension_free (use := none) (cl := clOf scope.names X.env []) rfl hs (closureFor_eq fun y hy e => I.ok.has y.1 (S.fr y hy e)) S.kind S.loc
    (wpAny_mono (hi pins s σ H _ I h) (fun v s1 h1 => thn h1 fun itv s2 h2 => ?_) fun _ _ e => e)
  obtain ⟨it, fp, tn, J, H2, e, I2, T, st2, f2, W, ⟨m0, w0⟩, turn⟩ := h2
  subst e
  refine wpAny_newObj_type (wpAny_newFunctionEnv S.nocell (by intro y hy; simp at hy) (fun h₁ hns₁ hsb₁ => ?_) S.kind)
  dsimp only at hns₁ hsb₁ ⊢
  generalize hH2 : s2.heap.push { cls := .type "list", dict := none, data := .seq ([] : List Value).toArray } = G at hns₁ hsb₁ ⊢
  have hG : G.objs.size = s2.heap.objs.size + 1 := by rw [← hH2, Heap.size_push]
  have hDC : s2.heap.objs.size ≠ G.objs.size := by rw [hG]; exact Nat.ne_of_lt (Nat.lt_succ_self _)
  have hCle : s2.heap.objs.size ≤ G.objs.size := by rw [hG]; exact Nat.le_succ _
  have below : ∀ b, b < s2.heap.objs.size → b ≠ G.objs.size := fun b hb => by rw [hG]; exact Nat.ne_of_lt (Nat.lt_succ_of_lt hb)
  have old : ∀ b o, s2.heap.get? b = some o → h₁.get? b = some o := fun b o e => hsb₁.extBut b o (below b (Heap.lt_size e)) (Heap.get?_push_of_some _ (hH2 ▸ Heap.get?_push_of_some _ e))
  have hacc : h₁.get? s2.heap.objs.size = some { cls := .type "list", dict := none, data := .seq ([] : List Value).toArray } := hsb₁.extBut _ _ hDC (Heap.get?_push_of_some _ (hH2 ▸ Heap.get?_push_size _ rfl))
  have fl : ∀ b ∈ fp, b < s2.heap.objs.size := fun b hb => let ⟨o, e, _⟩ := T.obj _ _ st2 b hb; Heap.lt_size e
  have hns₁' : h₁.Ns G.objs.size fun _ => none := hns₁
  have I4 := inv_comp (tk := s2.toks + ([] : List (Str × Value)).length) I2 S f2 fl (Nat.le_refl _) hCle hDC old hns₁' hacc (fun v z => nomatch z)
  have st4 : tn 0 h₁ := T.keep _ _ _ st2 fun b _ o e => old b o e
  generalize hs4 : ({ s2 with heap := h₁, toks := s2.toks + ([] : List (Str × Value)).length } : Shared) = s4 at I4 ⊢
  have e4 : s4.heap = h₁ := by rw [← hs4]
  rw [← e4] at st4
  -- the loop
  have loop : codeAny (model X.prog X.w) X.A (.compLoop (.ListComp elt [⟨tg, iter, ifs, 0⟩] scope pos) 0 (.ref it) (.ref s2.heap.objs.size) (compEnvC scope (clOf scope.names X.env []) G.objs.size X.env))
      (compPost (model X.prog X.w) X.A X.xe none (EP X pins σ Q) (.ref s2.heap.objs.size) G.objs.size) s4 := by
    let Y := cxComp X own caps scope s2 H2 fp G.objs.size
    have stat : ∀ {H' : Hp} {its : List Value} {n : Nat}, (∀ b ∈ fp, H' b = none) → ∀ b ∈ fp, FpOk Y [(s2.heap.objs.size, ({ cls := .type "list", data := .seq its.toArray n } : Obj))] H' b := fun {H' its n} hn b hb => by
      refine ⟨hn b hb, below b (fl b hb), fun z => ?_, .inl hb, fun x c e => (f2 b hb).2.2.2.2.1 x c (clOf_lookup e), fun p hp => ?_⟩
      · rcases List.mem_cons.mp (I2.stkSub b z) with e | e
        · exact (f2 b hb).2.1 e
        · exact (f2 b hb).2.2.1 e
      · have e : p = (s2.heap.objs.size, ({ cls := .type "list", data := .seq its.toArray n } : Obj)) := by simpa using (show p ∈ [] ++ [_] from hp)
        subst e
        exact Nat.ne_of_gt (fl b hb)
    refine loop_comp (fun n s' => ∃ i τ acc its k H', Inv Y [(s2.heap.objs.size, ({ cls := .type "list", data := .seq its.toArray k } : Obj))] τ H' s' ∧ tn i s'.heap ∧ (∀ b ∈ fp, H' b = none) ∧ Vals acc its ∧ W i n τ acc H') ?_ m0
      ⟨0, _, [], [], 0, H2, I4, st4, fun b hb => (f2 b hb).1, .nil, w0⟩
    rintro n s5 ⟨i, τ, acc, its, k, H5, I5, st5, fr5, rv5, w5⟩
    rcases turn i n τ acc H5 w5 with ⟨stop, hz, q⟩ | ⟨go, hz, step⟩
    · refine thn (T.done Y rfl rfl rfl hc i _ s5 τ H5 (fun _ _ => False) I5 (stat fr5) st5 stop) fun r s6 ⟨hr, I6⟩ => ?_
      subst hr
      obtain ⟨eD, nD, _, _, _⟩ := I6.pin _ (List.mem_append_right _ (List.mem_singleton.mpr rfl))
      obtain ⟨m6, hm6, _⟩ := I6.loc
      refine ⟨m6, hm6, fun h' hsb => ?_⟩
      have hC6 : H5 G.objs.size = none := I6.free
      have eD' : h'.get? s2.heap.objs.size = some { cls := .type "list", data := .seq its.toArray k } := hsb.extBut _ _ hDC eD
      have hok6 : HOk X.prog X.w H5 h' := fun b u e => (I6.hok b u e).stay (fun c v hcv qv => hsb.extBut c v (by
          rcases hcv with z | z
          · subst z; exact ne_of_none e hC6
          · exact ne_of_none z hC6) qv) (fun _ q => q) fun _ _ q => q
      refine ⟨.ref s2.heap.objs.size, _, ?_, rfl, q _ nD⟩
      have ub := I6.base
      refine I2.call' (ch := fp) (s' := { s6 with heap := h' }) I6.os ⟨fun b o e n' hb hx => hsb.extBut b o (below b (Heap.lt_size e)) (ub.keep b o e n' hb hx), fun b o e n' hb hx => ?_, fun b o e n' hx => ?_, fun b o e hx => ?_, fun b xs e => ?_, fun b o u e => ?_, fun b ps e => ?_⟩
        (hok6.track nD ⟨hz, its, k, rv5, eD'⟩) I6.bare fun b hb => ⟨(f2 b hb).2.2.2.1, (f2 b hb).2.1, (f2 b hb).2.2.2.2.1, (f2 b hb).2.2.2.2.2⟩
      · obtain ⟨sl, e'⟩ := ub.slot b o e n' hb hx
        exact ⟨sl, hsb.extBut b _ (below b (Heap.lt_size e)) e'⟩
      · rw [upd_ne (Nat.ne_of_lt (Heap.lt_size e))]
        exact ub.free b o e n' hx
      · obtain ⟨o', e'⟩ := ub.there b o e hx
        exact ⟨o', hsb.extBut b _ (below b (Heap.lt_size e)) e'⟩
      · have z := ub.tups b xs e
        rw [upd_ne (ne_of_none z nD)]; exact z
      · have z := ub.frzs b o u e
        rw [upd_ne (ne_of_none z nD)]; exact z
      · obtain ⟨more, z⟩ := ub.tbls b ps e
        exact ⟨more, by rw [upd_ne (ne_of_none z nD)]; exact z⟩
    · refine thn (T.item Y rfl rfl rfl hc i _ s5 τ H5 (fun _ _ => False) I5 (stat fr5) st5 go) fun r s6 ⟨u, hr, h6⟩ => ?_
      subst hr
      refine thn h6 fun _ s7 ⟨x, H7, I7, r7, y7, st7, fr7⟩ => ?_
      have I7' := I7.pinned (stat fr7) (T.obj _ _ st7)
      refine thn (hg s2 H2 fp G.objs.size _ s7 τ H7 x u _ I7' r7 (step x H7 y7)) fun _ s8 ⟨τ8, H8, I8, q8⟩ => ?_
      refine thn (ht s2 H2 fp G.objs.size _ s8 τ8 H8 _ I8 q8) fun ok s9 ⟨H9, I9, q9⟩ => ?_
      -- the iterator's state behind the turn
      have back : ∀ {s' : Shared} {τ' : St} {H' : Hp}, Inv Y ([(s2.heap.objs.size, ({ cls := .type "list", data := .seq its.toArray k } : Obj))] ++ pinsAt fp s7.heap) τ' H' s' → (tn (i + 1) s'.heap ∧ ∀ b ∈ fp, H' b = none) := fun {s' τ' H'} Ib =>
        ⟨T.keep _ _ _ st7 fun b hb o e => (Ib.pin (b, o) (List.mem_append_right _ (List.mem_append_right _ (mem_pinsAt hb e)))).1, fun b hb => by
          obtain ⟨o, e, d⟩ := T.obj _ _ st7 b hb
          exact (Ib.pin (b, o) (List.mem_append_right _ (List.mem_append_right _ (mem_pinsAt hb e)))).2.1⟩
      cases ok with
      | false =>
        obtain ⟨m', hm', w'⟩ := q9
        obtain ⟨sb, fb⟩ := back I9
        exact ⟨m', hm', i + 1, τ8, acc, its, k, H9, I9.unpinned, sb, fb, rv5, w'⟩
      | true =>
        refine thn (he s2 H2 fp G.objs.size _ s9 τ8 H9 _ I9 q9) fun y s10 ⟨yv, H10, I10, r10, q10⟩ => ?_
        obtain ⟨m', hm', w'⟩ := q10
        obtain ⟨sb, fb⟩ := back I10
        obtain ⟨eD, nD, neD, nfD, _⟩ := I10.pin (s2.heap.objs.size, _) (List.mem_append_right _ (List.mem_append_left _ (List.mem_singleton.mpr rfl)))
        have hl : acc.length = its.length := rv5.length
        refine call_meets F.slot_list_append ⟨_, eD, rfl⟩ F.entry_list_append (F.args_list_append_2 _ _) (PySem.list_append s2.heap.objs.size its.toArray k y (by rw [List.size_toArray]; omega)) ⟨eD, ?_⟩
        have q := PySem.IsL.update eD (fun a : Array Value => a.push y)
        have Iu : Inv Y [] τ8 H10 s10 := I10.pins_of fun p hp => nomatch hp
        have It := Iu.turned (t' := s10.toks) (it := s2.heap.objs.size) (h' := s10.heap.update s2.heap.objs.size (Obj.mapSeq (fun a : Array Value => a.push y))) (fun b o hb e => (Heap.get?_update_other s10.heap _ (Ne.symm hb)).trans e) nD neD (.inr (Nat.le_refl _))
          (fun x c e z => by
            obtain ⟨v, ob, hob, _⟩ := I2.cell x c (clOf_lookup e)
            exact absurd (Heap.lt_size hob) (by rw [z]; exact Nat.lt_irrefl _)) (fun p hp => nomatch hp)
        have It' := It.pins_of (pins' := [(s2.heap.objs.size, ({ cls := .type "list", data := .seq (its ++ [y]).toArray (k + 1) } : Obj))]) fun p hp => by
          have e : p = _ := List.mem_singleton.mp hp
          subst e
          exact ⟨by simpa using q, nD, neD, nfD, fun v z => nomatch z⟩
        refine ⟨m', hm', i + 1, τ8, acc ++ [yv], its ++ [y], _, H10, It', T.keep _ _ _ sb fun b hb o e => (Heap.get?_update_other s10.heap _ (Nat.ne_of_gt (fl b hb))).trans e, fb, rv5.append (.cons r10 .nil), w'⟩
  exact codeAny_compStart_list loop (T.self _ 0 s4 _ _ st4 loop)
end
end L2
set_option Elab.async false
set_option linter.all false
set_option maxRecDepth 100000
set_option maxHeartbeats 4000000
namespace L2
open PySem PySem.Spec PyProof.Rows
open AutoSeq1 (wpAny_loadPart')
section
variable {prog : Program} {w : World} {A : Around} {E : Value → Shared → Prop} {s : Shared}
end
section
variable {prog : Program} {w : World} {A : Around} {E : Value → Shared → Prop} {s : Shared}
end
def IteL (K : PySem.W.Frag) (a : Addr) : It :=
  ⟨fun i H => ∃ xs x, SqL K H a xs ∧ xs[i]? = some x, fun i H y H' => ∃ p x, H p = none ∧ y = .ref p ∧ H' = upd H p (.tup [.int i, x]) ∧ ∀ xs, SqL K H a xs → xs[i]? = some x, fun i H => ∃ xs, SqL K H a xs ∧ xs.length ≤ i⟩
theorem turn_enumL {P : Program} {w : World} {K : PySem.W.Frag} {es : List Expr} {k : Nat} {pos : Pos} (a e it : Addr) (hne : e ≠ it) :
    Turn P w K (.Tuple es k pos) (IteL K a) [e, it] e (fun i h => (∃ old, IsEnum h e it i old) ∧ h.IsListIter it a i) where
  mem := by simp
  obj := fun i h st b hb => by
    obtain ⟨⟨old, he⟩, o, hi, c, d⟩ := st
    rcases List.mem_cons.mp hb with z | z
    · subst z; exact ⟨_, he, fun v q => nomatch q⟩
    · have z' : b = it := by simpa using z
      subst z'
      exact ⟨o, hi, fun v q => by rw [d] at q; cases q⟩
  keep := fun i h h' st q => by
    obtain ⟨⟨old, he⟩, o, hi, r⟩ := st
    exact ⟨⟨old, q e (by simp) _ he⟩, o, q it (by simp) o hi, r⟩
  item := by
    intro X hP hw hK hc i pins s σ H E I hf st hg
    subst hP hw hK
    obtain ⟨xs, x, hq, hx⟩ := hg
    obtain ⟨its, rv, p, hz⟩ := I.list hq
    obtain ⟨u, hu, ru⟩ := rv.get hx
    obtain ⟨⟨old, he⟩, hi⟩ := st
    obtain ⟨e0, e1, e2, e3, e4, e5⟩ := hf e (by simp)
    obtain ⟨f0, f1, f2, f3, f4, f5⟩ := hf it (by simp)
    have el : e < s.heap.objs.size := Heap.lt_size he
    have il : it < s.heap.objs.size := let ⟨_, z, _⟩ := hi; Heap.lt_size z
    refine wpAny_pyNext_enum_item he hi p.isList (x := u) (by simpa using hu) hne fun h1 ho hi1 hT hsz hk => ?_
    obtain ⟨tk, htk⟩ : ∃ tk, tk = s.toks := ⟨_, rfl⟩
    rw [← htk] at hT ⊢
    refine ⟨_, rfl, ?_⟩
    refine wpAny_letOwnedTupleGo_enum ho fun h2 he2 hs2 => ?_
    have hs2' : Heap.SameBut e h1 h2 := hs2
    have old2 : ∀ b o, b ≠ e → b ≠ it → s.heap.get? b = some o → h2.get? b = some o := fun b o hb hb' q => hs2'.extBut b o hb (hk b o hb hb' q)
    have hT2 : h2.get? s.heap.objs.size = some { cls := .type "tuple", data := .seq #[.int i tk, u] } := hs2'.extBut _ _ (Nat.ne_of_gt el) hT
    have nT : H s.heap.objs.size = none := I.hok.fresh (Nat.le_refl _)
    refine ⟨.ref s.heap.objs.size, upd H s.heap.objs.size (.tup [.int i, x]), ?_, rfl, ⟨_, x, nT, rfl, rfl, fun ys hy => by rw [I.list_inj hy hq]; exact hx⟩, ⟨⟨u, by simpa using he2⟩, ?_⟩, fun b hb => ?_⟩
    · have nch : ∀ b, b ∉ [e, it] → b ≠ e ∧ b ≠ it := fun b hb => ⟨fun z => hb (by simp [z]), fun z => hb (by simp [z])⟩
      refine Inv.step (s := s) (h' := h2) (g' := s.gens) (d' := s.drawn) (t' := tk + 1) (ch := [e, it]) I (fun b hb => ?_) (fun b o _ _ hb q _ => old2 b o (nch b hb).1 (nch b hb).2 q) (fun b o _ _ hb q _ => ⟨o.slots, old2 b o (nch b hb).1 (nch b hb).2 q⟩)
        (fun b o _ q n => by rw [upd_ne (Nat.ne_of_lt (Heap.lt_size q))]; exact n) (fun b o hb q => ⟨o, old2 b o (nch b hb).1 (nch b hb).2 q⟩)
        (fun b ys q => by rw [upd_ne (ne_of_none q nT)]; exact q) (fun b o v q => by rw [upd_ne (ne_of_none q nT)]; exact q) (fun b ps q => ⟨#[], by rw [upd_ne (ne_of_none q nT), q]; simp⟩)
        (fun m hm => by
          obtain ⟨o, es', ep, q, r⟩ := hm
          exact ⟨o, es', ep, old2 _ o (Ne.symm e1) (Ne.symm f1) q, r⟩) (fun b v q => ?_) I.bare
      · rcases List.mem_cons.mp hb with z | z
        · subst z; exact ⟨e3, e1, e4, e5⟩
        · have z' : b = it := by simpa using z
          subst z'; exact ⟨f3, f1, f4, f5⟩
      · by_cases hb : b = s.heap.objs.size
        · subst hb
          rw [upd_same] at q
          cases q
          exact ⟨⟨by show 2 ≤ sizeLine; rw [sizeLine_eq]; decide, fun ob e => by rw [hT2] at e; cases e; rfl⟩, [.int i tk, u], .cons ⟨_, rfl⟩ (.cons ru .nil), ⟨_, hT2, rfl, _, rfl⟩⟩
        · rw [upd_ne hb] at q
          refine (I.hok b v q).stay (fun c ob hc qc => old2 c ob ?_ ?_ qc) (fun c qc => by rw [upd_ne (ne_of_none qc nT)]; exact qc) fun c ys qc => by rw [upd_ne (ne_of_none qc nT)]; exact qc
          · rcases hc with z | z
            · subst z; exact ne_of_none q e0
            · exact ne_of_none z e0
          · rcases hc with z | z
            · subst z; exact ne_of_none q f0
            · exact ne_of_none z f0
    · obtain ⟨o, q, r⟩ := hi1
      exact ⟨o, hs2'.extBut it o (Ne.symm hne) q, r⟩
    · rcases List.mem_cons.mp hb with z | z
      · subst z; rw [upd_ne (Nat.ne_of_lt el)]; exact e0
      · have z' : b = it := by simpa using z
        subst z'; rw [upd_ne (Nat.ne_of_lt il)]; exact f0
  done := by
    intro X hP hw hK hc i pins s σ H E I hf st hg
    subst hP hw hK
    obtain ⟨xs, hq, hx⟩ := hg
    obtain ⟨its, rv, p, hz⟩ := I.list hq
    obtain ⟨⟨old, he⟩, hi⟩ := st
    obtain ⟨f0, f1, f2, f3, f4, f5⟩ := hf it (by simp)
    have hl := rv.length
    exact wpAny_pyNext_enum_end (I.ok.hd hc) he hi p.isList (by simp; omega) fun h' eb => ⟨rfl, I.turned (t' := s.toks) (fun b o hb e => eb b o hb e) f0 f1 f3 f4 f5⟩
  self := fun _ _ _ _ _ st h => let ⟨⟨_, he⟩, _⟩ := st; wpAny_pyIter_enum he h
def iEnumL (K : PySem.W.Frag) (ta : TA) : TI := fun σ H R => ta σ H fun vs H1 => ∃ a, vs = [.ref a] ∧ (∃ xs, SqL K H1 a xs) ∧ R (IteL K a) H1
theorem pi_enumL {X : Cx} {a : Expr} {ta : TA} {p pos pos2 : Pos} {es : List Expr} {k : Nat} {K : PySem.W.Frag} (hK : X.K = K) (hg : Gl X "enumerate") (hm : X.mg "enumerate" = none) (ha : PA X [a] ta) (hs : starEach [a] X.env = [(false, eval a X.env)] := by rfl) :
    PI X (.Tuple es k pos2) (.Call (.Name "enumerate" p) [a] [] pos) (iEnumL K ta) := by
  subst hK
  intro pins s σ H R I h
  refine Call_ (ld_blt I hg hm boot_enumerate (PyProof.Rows.callWith_type1 (thn (ha pos pins s σ H _ I h) fun us s1 ⟨vs, H1, I1, r1, q1⟩ => ?_) hs rfl))
  obtain ⟨l, e, ⟨xs, hq⟩, q⟩ := q1
  subst e
  cases r1 with
  | cons r rr =>
    cases rr
    cases r
    obtain ⟨its, rv, p, hz⟩ := I1.list hq
    refine call_enumerate_list p.isList fun h' he hi hsz hk => ?_
    refine wpAny_pyIter_enum he ?_
    have I2 : Inv X pins σ H1 { s1 with heap := h' } := I1.kept (t' := s1.toks) hk
    refine ⟨s1.heap.objs.size + 1, [s1.heap.objs.size + 1, s1.heap.objs.size], _, _, H1, rfl, I2, turn_enumL l _ _ (Nat.succ_ne_self _), ⟨⟨_, he⟩, hi⟩, fun b hb => ?_, q⟩
    have hb' : s1.heap.objs.size ≤ b := by
      rcases List.mem_cons.mp hb with z | z
      · subst z; exact Nat.le_succ _
      · have z' : b = s1.heap.objs.size := by simpa using z
        subst z'; exact Nat.le_refl _
    exact I1.fpOk hb' (I1.hok.fresh hb')
end L2
set_option Elab.async false
set_option linter.all false
set_option maxRecDepth 100000
set_option maxHeartbeats 4000000
namespace L2
open PySem PySem.Spec PyProof.Rows
def tyS (H : Hp) : V → Option String
  | .non => some "NoneType"
  | .bl _ => some "bool"
  | .int _ => some "int"
  | .str _ => some "str"
  | .ref a => match H a with
    | some (.lst _) => some "list"
    | some (.frz _ (.lst _)) => some "list"
    | some (.tup _) => some "tuple"
    | some (.dK _) => some "dict"
    | _ => none
  | _ => none
theorem tyS_of {K : PySem.W.Frag} {H : Hp} {x : V} {t : String} (h : tyS H x = some t) : TyOf K H x (.type t) := by
  cases x with
  | non => cases h; exact .non
  | bl b => cases h; exact .bl b
  | int i => cases h; exact .int i
  | str x => cases h; exact .str x
  | ref a =>
    unfold tyS at h
    dsimp only at h
    split at h
    · rename_i e; cases h; exact .lst e
    · rename_i e; cases h; exact .frz e
    · rename_i e; cases h; exact .tup e
    · rename_i e; cases h; exact .dK e
    · cases h
  | _ => cases h
theorem tyS_six {H : Hp} {x : V} {t : String} (h : tyS H x = some t) : t = "NoneType" ∨ t = "bool" ∨ t = "int" ∨ t = "str" ∨ t = "list" ∨ t = "tuple" ∨ t = "dict" := by
  cases x with
  | ref a =>
    unfold tyS at h
    dsimp only at h
    split at h <;> cases h <;> simp
  | _ => cases h <;> simp
def isSub (t T : String) : Bool := t == T || (t == "bool" && T == "int")
theorem kit_of {K : PySem.W.Frag} {t T : String} (h : t = "NoneType" ∨ t = "bool" ∨ t = "int" ∨ t = "str" ∨ t = "list" ∨ t = "tuple" ∨ t = "dict") (hT : T = "int" ∨ T = "bool" ∨ T = "list" ∨ T = "tuple") : PySem.W.kitOne K (.type t) (.type T) = some (isSub t T) := by
  rcases h with rfl | rfl | rfl | rfl | rfl | rfl | rfl <;> rcases hT with rfl | rfl | rfl | rfl <;> first | rfl | decide +kernel
section
variable {X : Cx}
theorem call_isinst : CallR X (.builtin "isinstance") (fun xs H Q => ∃ x t T, xs = [x, .ty T] ∧ tyS H x = some t ∧ (T = "int" ∨ T = "bool" ∨ T = "list" ∨ T = "tuple") ∧ Q (.bl (isSub t T)) H) := by
  intro pins s σ H xs us Q I r h
  obtain ⟨x, t, T, rfl, ht, hT, q⟩ := h
  obtain ⟨u, w', rfl, r1, r2⟩ := vals2 r
  cases r2
  exact isinst_ok I r1 (tyS_of ht) (kit_of (tyS_six ht) hT) fun tk => ⟨.bl _, H, I.tok tk, rfl, q⟩
theorem op_fdivB : OpR X (binaryOp .FloorDiv) (rI (fun _ j => 0 < j ∧ j < 2 ^ 200) fun i j => .int (i / j)) := opI fun i j _ _ _ _ _ hc q => by
  have e : i.fdiv j = i / j := Int.fdiv_eq_ediv_of_nonneg _ (by omega)
  rw [← e] at q
  refine floordiv_int (by omega) q (.inl (PyProof.noPylong_of_log2 ?_))
  have h0 : j.natAbs ≠ 0 := by omega
  have h1 : j.natAbs < 2 ^ 200 := by omega
  have := (Nat.log2_lt h0).mpr h1
  omega
theorem op_neNil (hu : X.A.units + 64 < cLine) : OpR X (compareOp .NotEq) (fun x y H Q => ∃ a b xs, x = .ref a ∧ y = .ref b ∧ SqL X.K H a xs ∧ SqL X.K H b [] ∧ Q (.bl (!xs.isEmpty)) H) := by
  intro pins s σ H x y v u Q I rx ry h
  obtain ⟨a, b, xs, rfl, rfl, ha, hb, q⟩ := h
  cases rx; cases ry
  obtain ⟨its, r, p, _⟩ := I.list ha
  obtain ⟨its2, r2, p2, _⟩ := I.list hb
  cases r2
  cases r with
  | nil => exact SeqAt.RcNeAt.lists (e := fun _ => true) p.isList p2.isList rfl (by omega) (fun j h1 => absurd h1 (Nat.not_lt_zero _)) _ _ _ _ ⟨.bl _, H, I, rfl, q⟩
  | cons r1 rr => exact SeqAt.RcNeAt.lists_lengths p.isList p2.isList (by simp) (by omega) _ _ _ _ ⟨.bl _, H, I, rfl, q⟩
theorem op_eqUnit (hu : X.A.units + 64 < cLine) : OpR X (compareOp .Eq) (fun x y H Q => ∃ a b xs, x = .ref a ∧ y = .ref b ∧ SqT X.K H a xs ∧ SqT X.K H b [] ∧ Q (.bl xs.isEmpty) H) := by
  intro pins s σ H x y v u Q I rx ry h
  obtain ⟨a, b, xs, rfl, rfl, ha, hb, q⟩ := h
  cases rx; cases ry
  obtain ⟨its, r, p, _⟩ := I.tuple ha
  obtain ⟨its2, r2, p2, _⟩ := I.tuple hb
  cases r2
  have q' : Q (.bl ((List.range (min its.toArray.size ([] : List Value).toArray.size)).all (fun _ => true) && its.toArray.size == ([] : List Value).toArray.size)) H := by
    cases r with
    | nil => simpa using q
    | cons r1 rr => simpa using q
  exact SeqAt.RcAt.tuples (e := fun _ => true) p p2 (by omega) (fun j h1 h2 => absurd h2 (Nat.not_lt_zero _)) _ _ _ _ ⟨.bl _, H, I, rfl, q'⟩
variable {K : PySem.W.Frag}
theorem pg_tup' {es : List Expr} {k : Nat} {t : TGs} {n : Nat} {pos : Pos} (hK : X.K = K) (hc : X.calm = true) (h : PGs X es t)
    (hn : (assignEach es X.env).length = n := by rfl) (hst : (assignEach es X.env).findIdx? (·.1) = none := by rfl) : PG X (.Tuple es k pos) (gTup K n t) := by subst hK; exact pg_tup hc h hn hst
theorem pi_list' {tg l : Expr} {tl : TE} (hK : X.K = K) (hl : PE X l tl) : PI X tg l (iList K tl) := by subst hK; exact pi_list hl
theorem pi_tup'' {tg l : Expr} {tl : TE} (hK : X.K = K) (hl : PE X l tl) : PI X tg l (iTup K tl) := by subst hK; exact pi_tup hl
theorem ix_list' (hK : X.K = K) : IxR X (rIxL K) := by subst hK; exact ix_list
theorem ix_tup' (hK : X.K = K) : IxR X (rIxT K) := by subst hK; exact ix_tup
theorem sl_list' (hK : X.K = K) : SlR X (rSlL K) := by subst hK; exact sl_list
theorem sl_tup' (hK : X.K = K) : SlR X (rSlT K) := by subst hK; exact sl_tup
theorem op_in_seq' (hK : X.K = K) : OpR X (compareOp .In) (rIn K false) := by subst hK; exact op_in_seq
theorem call_len_seq' (hK : X.K = K) : CallR X (.builtin "len") (fun xs H Q => ∃ p ys, xs = [.ref p] ∧ (SqL K H p ys ∨ SqT K H p ys) ∧ Q (.int ys.length) H) := by subst hK; exact call_len_seq
theorem call_list_of' (hK : X.K = K) : CallR X (.type "list") (fun xs H Q => ∃ p ys, xs = [.ref p] ∧ (SqL K H p ys ∨ SqT K H p ys) ∧ ∀ l, H l = none → Q (.ref l) (upd H l (.lst ys))) := by subst hK; exact call_list_of
end
end L2
namespace L2
open PySem PySem.Spec PyProof.Rows
theorem get_list {X : Cx} {K : PySem.W.Frag} (hK : X.K = K) : PGet X (fun o i H Q => ∃ p xs v, ∃ k : Nat, o = .ref p ∧ i = .int k ∧ SqL K H p xs ∧ xs[k]? = some v ∧ Q v H) := by
  subst hK
  intro pins s σ H o i ov iv Q I ro ri h
  obtain ⟨p, xs, v, k, rfl, rfl, hq, hv, q⟩ := h
  cases ro
  obtain ⟨t, rfl⟩ := ri
  obtain ⟨its, r, pl, hz⟩ := I.list hq
  obtain ⟨w, ew, rw'⟩ := r.get hv
  have hk : k < xs.length := (List.getElem?_eq_some_iff.mp hv).1
  have hn := line63
  exact wpAny_getItem_list pl.isList (by omega) (by omega) (by simpa using ew) ⟨v, H, I, rw', q⟩
end L2
set_option Elab.async false
set_option linter.all false
set_option maxRecDepth 100000
set_option maxHeartbeats 4000000
namespace SmSort
open PySem PySem.W PyProof.Rows
def KOK {α : Type} (n : Nat) (c : Nat → Nat → Bool) : KasT α → (α → Prop) → Prop
  | .ret a, P => P a
  | .ask i j k, P => i < n ∧ j < n ∧ KOK n c (k (c i j)) P
theorem KOK.bind {α β : Type} {n : Nat} {c : Nat → Nat → Bool} {f : α → KasT β} {P : β → Prop} : ∀ (t : KasT α), KOK n c t (fun a => KOK n c (f a) P) → KOK n c (t.bind f) P
  | .ret a, h => h
  | .ask i j k, h => ⟨h.1, h.2.1, KOK.bind (k (c i j)) h.2.2⟩
theorem KOK.mono {α : Type} {n : Nat} {c : Nat → Nat → Bool} {P P' : α → Prop} (hp : ∀ a, P a → P' a) : ∀ (t : KasT α), KOK n c t P → KOK n c t P'
  | .ret a, h => hp a h
  | .ask i j k, h => ⟨h.1, h.2.1, KOK.mono hp (k (c i j)) h.2.2⟩
theorem KOK.wp {α : Type} {n : Nat} {c : Nat → Nat → Bool} {P : α → Prop} {Q : α → Shared → Prop} {cmp : Nat → Nat → (Bool → Shared → Prop) → Shared → Prop} {s : Shared}
    (hc : ∀ i j C, i < n → j < n → C (c i j) s → cmp i j C s) (hq : ∀ a, P a → Q a s) : ∀ (t : KasT α), KOK n c t P → t.kasWp cmp Q s
  | .ret a, h => hq a h
  | .ask i j k, h => hc i j _ h.1 h.2.1 (KOK.wp hc hq (k (c i j)) h.2.2)
section
variable {n : Nat} {f : Nat → Int}
def at' (p : Array Nat) (i : Nat) : Nat := (p[i]?).getD 0
theorem getD_at (p : Array Nat) (i : Nat) : p.getD i 0 = at' p i := by unfold at'; simp
def g (f : Nat → Int) (p : Array Nat) (i : Nat) : Int := f (at' p i)
def Pm (n : Nat) (p : Array Nat) : Prop := p.Perm (List.toArray (List.range n))
theorem Pm.size {p : Array Nat} (h : Pm n p) : p.size = n := by rw [Array.Perm.size_eq h]; simp
theorem Pm.lt {p : Array Nat} (h : Pm n p) {i : Nat} (hi : i < n) : at' p i < n := by
  have hs := h.size
  have e : at' p i = p[i]'(by omega) := by unfold at'; simp [hs, hi]
  have hm : p[i]'(by omega) ∈ p := Array.getElem_mem _
  have hm' := (Array.Perm.mem_iff h).mp hm
  rw [e]
  simpa using hm'
theorem Pm.rev {p : Array Nat} (h : Pm n p) (i j : Nat) : Pm n (kas_rev p i j) := (mirror_perm p i j _).trans h
theorem Pm.bub {p : Array Nat} (h : Pm n p) (k d : Nat) : Pm n (bubble p k d) := (bubble_perm p k d).trans h
theorem g_rev {p : Array Nat} {i j : Nat} (hj : j ≤ p.size) (k : Nat) : g f (kas_rev p i j) k = if i ≤ k ∧ k < j then g f p (i + j - 1 - k) else g f p k := by
  unfold g at' kas_rev
  rw [getElem?_mirror_all hj k]
  split <;> rfl
theorem g_bub {p : Array Nat} {src d : Nat} (hs : src < p.size) (hd : d ≤ src) (k : Nat) : g f (bubble p src d) k = if k = src - d then g f p src else if src - d < k ∧ k ≤ src then g f p (k - 1) else g f p k := by
  unfold g at'
  rw [getElem?_bubble hs d hd k]
  split
  · rfl
  · split <;> rfl
def Up (f : Nat → Int) (p : Array Nat) (k : Nat) : Prop := ∀ i j, i ≤ j → j < k → g f p i ≤ g f p j
def Dn (f : Nat → Int) (p : Array Nat) (k : Nat) : Prop := ∀ i j, i ≤ j → j < k → g f p j ≤ g f p i
def cf (f : Nat → Int) (i j : Nat) : Bool := decide (f i < f j)
theorem asc_ok {p : Array Nat} (hp : Pm n p) : ∀ (q m : Nat), 1 ≤ m → m + q ≤ n → Up f p m → KOK n (cf f) (kas_asc p q m) (fun m' => m ≤ m' ∧ m' ≤ m + q ∧ Up f p m' ∧ (m' < m + q → g f p m' < g f p (m' - 1)))
  | 0, m, _, _, hu => ⟨Nat.le_refl _, Nat.le_refl _, hu, fun h => absurd h (Nat.lt_irrefl _)⟩
  | q + 1, m, h1, h2, hu => by
    unfold kas_asc
    refine ⟨by rw [getD_at]; exact hp.lt (by omega), by rw [getD_at]; exact hp.lt (by omega), ?_⟩
    rw [getD_at, getD_at]
    by_cases hc : g f p m < g f p (m - 1)
    · have e : cf f (at' p m) (at' p (m - 1)) = true := decide_eq_true hc
      rw [e]; dsimp only; rw [if_pos rfl]
      exact ⟨Nat.le_refl _, by omega, hu, fun _ => hc⟩
    · have e : cf f (at' p m) (at' p (m - 1)) = false := decide_eq_false hc
      rw [e]; dsimp only; rw [if_neg Bool.false_ne_true]
      refine KOK.mono (fun m' h => ⟨by omega, by omega, h.2.2.1, fun z => h.2.2.2 (by omega)⟩) _ (asc_ok hp q (m + 1) (by omega) (by omega) fun i j hij hj => ?_)
      by_cases hjm : j < m
      · exact hu i j hij hjm
      · have ej : j = m := by omega
        subst ej
        by_cases hi : i = j
        · subst hi; omega
        · have := hu i (j - 1) (by omega) (by omega)
          omega
def Blk (f : Nat → Int) (p : Array Nat) (m q : Nat) : Prop := ∀ i, m ≤ i + (q + 1) → i < m → g f p i = g f p (m - 1)
theorem rev_same {p : Array Nat} (hp : Pm n p) {m q : Nat} (hm : m ≤ n) (hq : q + 1 ≤ m) (hb : Blk f p m q) (k : Nat) : g f (kas_rev p (m - (q + 1)) m) k = g f p k := by
  rw [g_rev (by rw [hp.size]; exact hm)]
  split
  · rename_i h
    rw [hb _ (by omega) (by omega), hb k (by omega) (by omega)]
  · rfl
theorem desc_ok : ∀ (t : Nat) (p : Array Nat) (m q : Nat), Pm n p → 1 ≤ m → m + t ≤ n → q + 1 ≤ m → Dn f p m → Blk f p m q →
    KOK n (cf f) (kas_desc t p m q) (fun r => Pm n r.1 ∧ m ≤ r.2.1 ∧ r.2.1 ≤ n ∧ r.2.2 + 1 ≤ r.2.1 ∧ Dn f r.1 r.2.1 ∧ Blk f r.1 r.2.1 r.2.2)
  | 0, p, m, q, hp, h1, h2, h3, hd, hb => ⟨hp, Nat.le_refl _, by simpa using h2, h3, hd, hb⟩
  | t + 1, p, m, q, hp, h1, h2, h3, hd, hb => by
    unfold kas_desc
    refine ⟨by rw [getD_at]; exact hp.lt (by omega), by rw [getD_at]; exact hp.lt (by omega), ?_⟩
    rw [getD_at, getD_at]
    by_cases hc : g f p m < g f p (m - 1)
    · have e : cf f (at' p m) (at' p (m - 1)) = true := decide_eq_true hc
      rw [e]; dsimp only; rw [if_pos rfl]
      have step : ∀ p' : Array Nat, Pm n p' → (∀ k, g f p' k = g f p k) → KOK n (cf f) (kas_desc t p' (m + 1) 0) (fun r => Pm n r.1 ∧ m ≤ r.2.1 ∧ r.2.1 ≤ n ∧ r.2.2 + 1 ≤ r.2.1 ∧ Dn f r.1 r.2.1 ∧ Blk f r.1 r.2.1 r.2.2) := fun p' hp' hg => by
        refine KOK.mono (fun r h => ⟨h.1, by omega, h.2.2⟩) _ (desc_ok t p' (m + 1) 0 hp' (by omega) (by omega) (by omega) (fun i j hij hj => ?_) fun i hi hi' => ?_)
        · rw [hg, hg]
          by_cases hjm : j < m
          · exact hd i j hij hjm
          · have ej : j = m := by omega
            subst ej
            by_cases hi : i = j
            · subst hi; omega
            · have := hd i (j - 1) (by omega) (by omega)
              omega
        · have : i = m + 1 - 1 := by omega
          rw [this]
      split
      · exact step _ (hp.rev _ _) (rev_same hp (by omega) h3 hb)
      · exact step _ hp fun _ => rfl
    · have e : cf f (at' p m) (at' p (m - 1)) = false := decide_eq_false hc
      rw [e]; dsimp only; rw [if_neg Bool.false_ne_true]
      refine ⟨hp.lt (by omega), hp.lt (by omega), ?_⟩
      by_cases hc2 : g f p (m - 1) < g f p m
      · have e2 : cf f (at' p (m - 1)) (at' p m) = true := decide_eq_true hc2
        rw [e2]; dsimp only; rw [if_pos rfl]
        exact ⟨hp, Nat.le_refl _, by show m ≤ n; omega, h3, hd, hb⟩
      · have e2 : cf f (at' p (m - 1)) (at' p m) = false := decide_eq_false hc2
        rw [e2]; dsimp only; rw [if_neg Bool.false_ne_true]
        have eq : g f p m = g f p (m - 1) := by omega
        refine KOK.mono (fun r h => ⟨h.1, by omega, h.2.2⟩) _ (desc_ok t p (m + 1) (q + 1) hp (by omega) (by omega) (by omega) (fun i j hij hj => ?_) fun i hi hi' => ?_)
        · by_cases hjm : j < m
          · exact hd i j hij hjm
          · have ej : j = m := by omega
            subst ej
            by_cases hi : i = j
            · subst hi; omega
            · have := hd i (j - 1) (by omega) (by omega)
              omega
        · rw [show m + 1 - 1 = m from rfl]
          by_cases hi2 : i = m
          · rw [hi2]
          · rw [hb i (by omega) (by omega), eq]
theorem tail3_ok {p : Array Nat} {m : Nat} (hp : Pm n p) (h1 : 1 ≤ m) (hm : m ≤ n) (hd : Dn f p m) : KOK n (cf f) (kas_tail3 m n p) (fun r => Pm n r.2 ∧ r.1 ≤ n ∧ 1 ≤ r.1 ∧ Up f r.2 r.1) := by
  unfold kas_tail3
  have hp' := hp.rev 0 m
  refine KOK.bind _ (KOK.mono (fun m' h => ⟨hp', by omega, by omega, h.2.2.1⟩) _ (asc_ok hp' (n - m) m h1 (by omega) fun i j hij hj => ?_))
  rw [g_rev (by rw [hp.size]; exact hm), g_rev (by rw [hp.size]; exact hm), if_pos ⟨by omega, by omega⟩, if_pos ⟨by omega, by omega⟩]
  exact hd _ _ (by omega) (by omega)
theorem descPart_ok {p : Array Nat} {m : Nat} (hp : Pm n p) (h1 : 1 ≤ m) (hm : m < n) (hd : Dn f p (m + 1)) : KOK n (cf f) (kas_descPart m n p) (fun r => Pm n r.2 ∧ r.1 ≤ n ∧ 1 ≤ r.1 ∧ Up f r.2 r.1) := by
  unfold kas_descPart
  refine KOK.bind _ (KOK.mono (fun r h => ?_) _ (desc_ok (n - (m + 1)) p (m + 1) 0 hp (by omega) (by omega) (by omega) hd fun i hi hi' => by rw [show i = m + 1 - 1 by omega]))
  obtain ⟨a1, a2, a3, a4, a5, a6⟩ := h
  split
  · exact tail3_ok (a1.rev _ _) (by omega) a3 fun i j hij hj => by
      rw [rev_same a1 a3 a4 a6, rev_same a1 a3 a4 a6]
      exact a5 i j hij hj
  · exact tail3_ok a1 (by omega) a3 a5
theorem count_ok {p : Array Nat} (hn : 1 ≤ n) (hp : Pm n p) : KOK n (cf f) (kas_count n p) (fun r => Pm n r.2 ∧ r.1 ≤ n ∧ 1 ≤ r.1 ∧ Up f r.2 r.1) := by
  unfold kas_count
  refine KOK.bind _ (KOK.mono (fun m h => ?_) _ (asc_ok hp (n - 1) 1 (Nat.le_refl _) (by omega) fun i j hij hj => by rw [show i = j by omega]; omega))
  obtain ⟨a1, a2, a3, a4⟩ := h
  split
  · exact ⟨hp, by omega, a1, a3⟩
  · rename_i hne
    have hlt : m < n := by
      have : ¬ m = n := by simpa using hne
      omega
    have a4' := a4 (by omega)
    split
    · rename_i hm1
      refine ⟨by rw [getD_at]; exact hp.lt (by omega), by rw [getD_at]; exact hp.lt (by omega), ?_⟩
      rw [getD_at, getD_at]
      by_cases hc : g f p 0 < g f p (m - 1)
      · have e : cf f (at' p 0) (at' p (m - 1)) = true := decide_eq_true hc
        rw [e]; dsimp only; rw [if_pos rfl]
        exact ⟨hp, by omega, a1, a3⟩
      · have e : cf f (at' p 0) (at' p (m - 1)) = false := decide_eq_false hc
        rw [e]; dsimp only; rw [if_neg Bool.false_ne_true]
        have all : ∀ k, k < m → g f p k = g f p 0 := fun k hk => by
          have := a3 0 k (by omega) hk
          have := a3 k (m - 1) (by omega) (by omega)
          omega
        have gr : ∀ k, g f (kas_rev p 0 m) k = g f p k := fun k => by
          rw [g_rev (by rw [hp.size]; omega)]
          split
          · rw [all _ (by omega), all k (by omega)]
          · rfl
        refine descPart_ok (hp.rev _ _) a1 hlt fun i j hij hj => ?_
        rw [gr, gr]
        by_cases hjm : j < m
        · rw [all i (by omega), all j hjm]; omega
        · have ej : j = m := by omega
          subst ej
          by_cases hi : i = j
          · subst hi; omega
          · have := all i (by omega)
            have := all (j - 1) (by omega)
            omega
    · refine descPart_ok hp a1 hlt fun i j hij hj => ?_
      have em : m = 1 := by omega
      subst em
      by_cases hi : i = j
      · subst hi; omega
      · have e1 : i = 0 := by omega
        have e2 : j = 1 := by omega
        subst e1 e2
        have : g f p 1 < g f p 0 := a4'
        omega
theorem place_ok {p : Array Nat} {k : Nat} (hp : Pm n p) (hk : k < n) (hu : Up f p k) : ∀ (t l r : Nat), l ≤ r → r ≤ k → r ≤ l + t → (∀ i, i < l → g f p i ≤ g f p k) → (∀ i, r ≤ i → i < k → g f p k < g f p i) →
    KOK n (cf f) (kas_place p k t l r) (fun l' => l' ≤ k ∧ (∀ i, i < l' → g f p i ≤ g f p k) ∧ ∀ i, l' ≤ i → i < k → g f p k < g f p i)
  | 0, l, r, h1, h2, h3, ha, hb => ⟨by omega, ha, fun i hi hi' => hb i (by omega) hi'⟩
  | t + 1, l, r, h1, h2, h3, ha, hb => by
    unfold kas_place
    split
    · exact ⟨by omega, ha, fun i hi hi' => hb i (by omega) hi'⟩
    · rename_i hlr
      refine ⟨by rw [getD_at]; exact hp.lt hk, by rw [getD_at]; exact hp.lt (by omega), ?_⟩
      rw [getD_at, getD_at]
      by_cases hc : g f p k < g f p ((l + r) / 2)
      · have e : cf f (at' p k) (at' p ((l + r) / 2)) = true := decide_eq_true hc
        rw [e]; dsimp only; rw [if_pos rfl]
        refine place_ok hp hk hu t l ((l + r) / 2) (by omega) (by omega) (by omega) ha fun i hi hi' => ?_
        have := hu ((l + r) / 2) i (by omega) hi'
        omega
      · have e : cf f (at' p k) (at' p ((l + r) / 2)) = false := decide_eq_false hc
        rw [e]; dsimp only; rw [if_neg Bool.false_ne_true]
        refine place_ok hp hk hu t ((l + r) / 2 + 1) r (by omega) (by omega) (by omega) (fun i hi => ?_) hb
        have := hu i ((l + r) / 2) (by omega) (by omega)
        omega
theorem bin_ok : ∀ (t : Nat) (p : Array Nat) (k : Nat), Pm n p → k + t = n → Up f p k → KOK n (cf f) (kas_bin t p k) (fun p' => Pm n p' ∧ Up f p' n)
  | 0, p, k, hp, hk, hu => ⟨hp, by rw [← hk]; exact hu⟩
  | t + 1, p, k, hp, hk, hu => by
    unfold kas_bin
    refine KOK.bind _ (KOK.mono (fun l h => ?_) _ (place_ok hp (by omega) hu k 0 k (by omega) (by omega) (by omega) (fun i hi => absurd hi (Nat.not_lt_zero _)) fun i hi hi' => absurd hi' (by omega)))
    obtain ⟨a1, a2, a3⟩ := h
    refine bin_ok t _ (k + 1) (hp.bub _ _) (by omega) fun i j hij hj => ?_
    have hs : k < p.size := by rw [hp.size]; omega
    rw [g_bub hs (by omega), g_bub hs (by omega)]
    have el : k - (k - l) = l := by omega
    rw [el]
    by_cases hil : i = l
    · rw [if_pos hil]
      by_cases hjl : j = l
      · rw [if_pos hjl]; omega
      · rw [if_neg hjl, if_pos ⟨by omega, by omega⟩]
        have := a3 (j - 1) (by omega) (by omega)
        omega
    · rw [if_neg hil]
      by_cases hi2 : l < i ∧ i ≤ k
      · rw [if_pos hi2]
        rw [if_neg (by omega), if_pos ⟨by omega, by omega⟩]
        exact hu _ _ (by omega) (by omega)
      · rw [if_neg hi2]
        have hi3 : i < l := by omega
        by_cases hjl : j = l
        · rw [if_pos hjl]; exact a2 i hi3
        · rw [if_neg hjl]
          by_cases hj2 : l < j ∧ j ≤ k
          · rw [if_pos hj2]; exact hu _ _ (by omega) (by omega)
          · rw [if_neg hj2]; exact hu _ _ hij (by omega)
theorem sort_ok (hn : 1 ≤ n) : KOK n (cf f) (kas_sort n) (fun p => Pm n p ∧ Up f p n) := by
  unfold kas_sort
  refine KOK.bind _ (KOK.mono (fun r h => ?_) _ (count_ok hn (show Pm n (List.toArray (List.range n)) from Array.Perm.refl _)))
  obtain ⟨a1, a2, a3, a4⟩ := h
  split
  · have e : max r.1 1 = r.1 := by omega
    rw [e]
    exact bin_ok _ _ _ a1 (by omega) a4
  · have e : r.1 = n := by omega
    exact ⟨a1, by rw [← e]; exact a4⟩
end
end SmSort
set_option Elab.async false
set_option linter.all false
set_option maxRecDepth 100000
set_option maxHeartbeats 4000000
namespace SmSort
def lx : List Int → List Int → Bool
  | [], [] => false
  | [], _ :: _ => true
  | _ :: _, [] => false
  | x :: xs, y :: ys => if x = y then lx xs ys else decide (x < y)
theorem lx_irr : ∀ r : List Int, lx r r = false
  | [] => rfl
  | x :: xs => by unfold lx; rw [if_pos rfl]; exact lx_irr xs
theorem lx_tr : ∀ {a b c : List Int}, lx a b = true → lx b c = true → lx a c = true
  | [], [], _, h, _ => by cases h
  | [], _ :: _, [], _, h => by cases h
  | [], _ :: _, _ :: _, _, _ => rfl
  | _ :: _, [], _, h, _ => by cases h
  | _ :: _, _ :: _, [], _, h => by cases h
  | x :: xs, y :: ys, z :: zs, h, h' => by
    unfold lx at h h' ⊢
    split at h
    · split at h'
      · rename_i e1 e2; rw [if_pos (e1.trans e2)]; exact lx_tr h h'
      · rename_i e1 e2
        simp only [decide_eq_true_eq] at h'
        rw [if_neg (by omega)]; simp only [decide_eq_true_eq]; omega
    · simp only [decide_eq_true_eq] at h
      split at h'
      · rename_i e1 e2
        rw [if_neg (by omega)]; simp only [decide_eq_true_eq]; omega
      · simp only [decide_eq_true_eq] at h'
        rw [if_neg (by omega)]; simp only [decide_eq_true_eq]; omega
theorem lx_tot : ∀ {a b : List Int}, lx a b = false → lx b a = false → a = b
  | [], [], _, _ => rfl
  | [], _ :: _, h, _ => by cases h
  | _ :: _, [], _, h => by cases h
  | x :: xs, y :: ys, h, h' => by
    unfold lx at h h'
    split at h
    · rename_i e; subst e; rw [if_pos rfl] at h'; rw [lx_tot h h']
    · rename_i e
      rw [if_neg fun z => e z.symm] at h'
      simp only [decide_eq_false_iff_not] at h h'
      omega
def rk (rs : List (List Int)) (r : List Int) : Int := ((rs.countP fun x => lx x r : Nat) : Int)
theorem countP_lt {α : Type} {p q : α → Bool} {a : α} : ∀ {l : List α}, (∀ x, p x = true → q x = true) → a ∈ l → p a = false → q a = true → l.countP p < l.countP q
  | [], _, h, _, _ => by cases h
  | x :: l, hpq, h, h1, h2 => by
    have hm : l.countP p ≤ l.countP q := List.countP_mono_left fun x _ => hpq x
    rcases List.mem_cons.mp h with rfl | h
    · rw [List.countP_cons_of_neg (by rw [h1]; exact Bool.false_ne_true), List.countP_cons_of_pos h2]; omega
    · have := countP_lt hpq h h1 h2
      rw [List.countP_cons, List.countP_cons]
      cases e : p x with
      | true => rw [hpq x e]; simp; omega
      | false => cases e2 : q x <;> simp <;> omega
theorem rk_lt {rs : List (List Int)} {a b : List Int} (ha : a ∈ rs) : decide (rk rs a < rk rs b) = lx a b := by
  unfold rk
  cases h : lx a b with
  | true =>
    have := countP_lt (p := fun x => lx x a) (q := fun x => lx x b) (fun x hx => lx_tr hx h) ha (lx_irr a) h
    simp only [decide_eq_true_eq]; omega
  | false =>
    have hm : rs.countP (fun x => lx x b) ≤ rs.countP (fun x => lx x a) := List.countP_mono_left fun x _ hx => by
      cases h' : lx b a with
      | true => exact lx_tr hx h'
      | false => rw [lx_tot h h']; exact hx
    simp only [decide_eq_false_iff_not]; omega
end SmSort
namespace L2
open PySem PySem.Spec PyProof.Rows PySem.W SmSort
theorem ObjOk.at {P : Program} {w : World} {H : Hp} {h : Heap} {a : Addr} {o : HO} (x : ObjOk P w H h a o) : ∃ ob, h.get? a = some ob := by
  cases o with
  | lst xs => obtain ⟨_, _, _, _, e⟩ := x; exact ⟨_, e⟩
  | tup xs => obtain ⟨_, _, _, ob, e, _⟩ := x; exact ⟨_, e⟩
  | dK kvs => obtain ⟨_, _, _, _, o, _, _, e, _⟩ := x; exact ⟨_, e⟩
  | dT kvs => obtain ⟨_, _, _, _, o, _, _, e, _⟩ := x; exact ⟨_, e⟩
  | set S n => obtain ⟨o, _, _, _, e, _⟩ := x; exact ⟨_, e⟩
  | ins C dx fs => obtain ⟨_, _, _, e, _⟩ := x; exact ⟨_, e⟩
  | own y => obtain ⟨_, e⟩ := x; exact ⟨_, e⟩
  | xd fs => obtain ⟨_, ⟨_, _, _, e, _⟩, _⟩ := x; exact ⟨_, e⟩
  | rng lo hi => obtain ⟨_, _, _, e⟩ := x; exact ⟨_, e⟩
  | frz ob u => obtain ⟨e, _⟩ := x; exact ⟨_, e⟩
  | tbl ps => exact ⟨_, (show h.get? a = some _ from x)⟩
  | met f y => exact ⟨_, (show h.get? a = some _ from x)⟩
  | ext φ => obtain ⟨_, ⟨_, e⟩, _⟩ := x; exact ⟨_, e⟩
section
variable {X : Cx} {pins : List (Addr × Obj)} {σ : St} {H : Hp} {s : Shared}
theorem Inv.sortedTo {m : Str → Option Value} {h' : Heap} {D : Addr} {its : List Value} {c : Nat} {xs : List V} (I : Inv X pins σ H s) (F0 : Fr X.base X.env.locals s.heap m) (F : Fr X.base X.env.locals h' m)
    (N : News X.base X.env.locals h' ((D, listOf its.toArray c) :: allNews X.base s.heap X.env.locals)) (lt : ∀ q ∈ allNews X.base s.heap X.env.locals, q.1 < D) (hv : Vals xs its) (hz : xs.length ≤ sizeLine) :
    Inv X pins σ (upd H D (.lst xs)) { s with heap := h' } ∧ H D = none := by
  obtain ⟨eD, nL, nb⟩ := N (D, listOf its.toArray c) (.head _)
  have oldD : s.heap.get? D = none := by
    cases q : s.heap.get? D with
    | none => rfl
    | some o => exact absurd (lt (D, o) (mem_allNews nL nb q)) (Nat.lt_irrefl _)
  have hD : H D = none := by
    cases q : H D with
    | none => rfl
    | some u =>
      obtain ⟨ob, e⟩ := (I.hok D u q).at
      rw [oldD] at e; cases e
  have keep : ∀ b o, b ≠ X.env.locals → s.heap.get? b = some o → h'.get? b = some o := fun b o hb e => by
    cases q : X.base.get? b with
    | some u =>
      have := I.bk b u q
      rw [e] at this; cases this
      exact F.keep b _ q
    | none => exact (N (b, o) (.tail _ (mem_allNews hb q e))).1
  have neD : ∀ b o, s.heap.get? b = some o → b ≠ D := fun b o e z => by rw [z, oldD] at e; cases e
  have neT : ∀ b u, H b = some u → b ≠ D := fun b u e z => by rw [z, hD] at e; cases e
  refine ⟨I.step (g' := s.gens) (t' := s.toks) (d' := s.drawn) (ch := []) (fun _ z => nomatch z) (fun b o hb _ _ e _ => keep b o hb e) (fun b o hb _ _ e _ => ⟨o.slots, keep b o hb e⟩) (fun b o _ e n => by rw [upd_ne (neD b o e)]; exact n) (fun b o _ e => ?_)
    (fun b ys e => by rw [upd_ne (neT b _ e)]; exact e) (fun b o u e => by rw [upd_ne (neT b _ e)]; exact e) (fun b ps e => ⟨#[], by rw [upd_ne (neT b _ e), e, Array.append_empty]⟩) (fun m' hm => ?_) (fun b u e => ?_) I.bare, hD⟩
  · by_cases hb : b = X.env.locals
    · obtain ⟨o', _, _, q, _⟩ := F.ns
      exact ⟨o', by rw [hb]; exact q⟩
    · exact ⟨o, keep b o hb e⟩
  · obtain ⟨o1, es1, ep1, e1, d1, k1, f1⟩ := hm
    obtain ⟨o2, es2, ep2, e2, d2, k2, f2⟩ := F0.ns
    rw [e1] at e2; cases e2
    rw [d1] at d2; cases d2
    obtain ⟨o3, es3, ep3, e3, d3, k3, f3⟩ := F.ns
    exact ⟨o3, es3, ep3, e3, d3, k3, fun name => (f3 name).trans ((f2 name).symm.trans (f1 name))⟩
  · by_cases hb : b = D
    · subst hb; rw [upd_same] at e; cases e
      exact ⟨hz, its, c, hv, eD⟩
    · rw [upd_ne hb] at e
      refine (I.hok b u e).stay (fun c v hc q => keep c v (fun z => ?_) q) (fun c q => by rw [upd_ne (neT c _ q)]; exact q) fun c ys q => by rw [upd_ne (neT c _ q)]; exact q
      rcases hc with rfl | hc
      · rw [z, I.free] at e; cases e
      · rw [z, I.free] at hc; cases hc
end
section
variable {prog : Program} {w : World} {A : Around} {E : Value → Shared → Prop} {s : Shared}
theorem sort_short {a : Addr} {its : List Value} {k : Nat} {P : PySem.Fin → Shared → Prop} (hx : s.heap.get? a = some (seqObj "list" its.toArray k)) (few : its.length < 2)
    (done : P (.done (.ret .none)) { s with heap := sortedHeap s.heap a its its.toArray }) : wpAny (model prog w) A (Builtin.«list.sort» ⟨[.ref a], []⟩) P E s := by
  have here : a < s.heap.objs.size := Heap.lt_size hx
  have line : its.length ≤ sizeLine := by rw [sizeLine_eq]; omega
  rw [list_sort_plain]
  obtain ⟨e1, at1⟩ : ∃ e1, (s.heap.update a (Obj.mapSeq fun _ => (#[] : Array Value))).get? a = some (seqObj "list" #[] e1) := ⟨_, get?_update_seq hx (fun _ => #[])⟩
  refine wpAny_bind (listItems_at hx rfl (wpAny_bind (listUpdate_at hx rfl (wpAny_bind (seqEpoch_at at1 rfl (wpAny_bind (wpAny_newTuple (wpAny_bind (wpAny_newList (wpAny_holding ?_) (Nat.zero_le _))) line))))
    (by rw [List.size_toArray]; exact line) (Nat.zero_le _))))
  have at2 : (((s.heap.update a (Obj.mapSeq fun _ => (#[] : Array Value))).push (seqObj "tuple" its.toArray 0)).push (seqObj "list" #[] 0)).get? a = some (seqObj "list" #[] e1) :=
    Heap.get?_push_of_some _ (Heap.get?_push_of_some _ at1)
  show wpAny (model prog w) A _ P E { s with heap := ((s.heap.update a (Obj.mapSeq fun _ => (#[] : Array Value))).push (seqObj "tuple" its.toArray 0)).push (seqObj "list" #[] 0) }
  have less : its.toArray.size < 2 := by rw [List.size_toArray]; exact few
  have snds : (arrOf (SortSt.mk' general' (its.toArray.zip its.toArray) #[] 7 none)).map (·.2) = its.toArray := by
    show (its.toArray.zip its.toArray).map (·.2) = its.toArray
    match its, few with
    | [], _ => simp
    | [_], _ => simp
  dsimp only
  rw [if_pos less, if_pos less]
  refine wpAny_bind (wpAny_pure ?_)
  rw [StateT.run_pure]
  refine wpAny_bind (wpAny_pure ?_)
  dsimp only
  refine wpAny_bind (seqEpoch_at at2 rfl (wpAny_bind (listUpdate_at at2 rfl ?_ (Nat.zero_le _) (by rw [snds, List.size_toArray]; omega))))
  simp only [bne_self_eq_false, Bool.false_eq_true, if_false]
  rw [snds]
  exact wpAny_pure done
theorem sorted_short {l : Addr} {its : List Value} {Q : Value → Shared → Prop} (hl : s.heap.IsList l its.toArray) (few : its.length < 2)
    (done : Q (.ref (s.heap.objs.size + 1)) { s with heap := sortedAll s.heap its its.toArray }) : wpAny (model prog w) A (call (.builtin "sorted") [.ref l]) Q E s := by
  have line : its.length ≤ sizeLine := by rw [sizeLine_eq]; omega
  refine Calls.call_function_entry kind_sorted plain_sorted entry_sorted (args_sorted1 _) ?_
  unfold Builtin.«sorted»
  refine wpAny_bind (m := checkCount "sorted" 1 1 _) (wpAny_pure (wpAny_bind (collect_list hl (wpAny_bind (wpAny_newList ?_ line)) line)))
  have sz : ((s.heap.push (seqObj "list" #[] 0)).update s.heap.objs.size (Obj.mapSeq (· ++ its.toArray))).objs.size = s.heap.objs.size + 1 := by rw [Heap.size_update, size_push']
  have atL : (((s.heap.push (seqObj "list" #[] 0)).update s.heap.objs.size (Obj.mapSeq (· ++ its.toArray))).push (seqObj "list" its.toArray 0)).get? (s.heap.objs.size + 1) = some (seqObj "list" its.toArray 0) := by
    rw [← sz]; exact Heap.get?_push_size _ rfl
  show wpAny _ _ _ _ _ { s with heap := ((s.heap.push (seqObj "list" #[] 0)).update s.heap.objs.size (Obj.mapSeq (· ++ its.toArray))).push (seqObj "list" its.toArray 0) }
  rw [sz]
  exact wpAny_bind (wpAny_holding (wpAny_call_entry slot_list_sort ⟨_, atL, rfl⟩ entry_list_sort (sort_short atL few ⟨_, rfl, wpAny_pure ⟨_, rfl, done⟩⟩) (args_list_sort _)))
end
section
variable {X : Cx}
theorem vals_refs : ∀ {ps : List (Addr × List Int)} {us : List Value}, Vals (ps.map fun a => V.ref a.1) us → us = ps.map fun a => Value.ref a.1
  | [], us, r => by cases r; rfl
  | a :: ps, us, r => by
    cases r with
    | cons x y => rw [vals_refs y]; cases x; rfl
def RowAt (h : Heap) (a : Addr) (r : List Int) : Prop := ∃ o items n, h.get? a = some o ∧ o.cls = .type "tuple" ∧ o.data = .seq items n ∧ Vals (r.map V.int) items.toList
theorem vals_lex {prog : Program} {w : World} {A : Around} {s : Shared} {b fin : Bool} {Q : Bool → Shared → Prop} : ∀ {r r' : List Int} {us us' : List Value} {i : Nat}, Vals (r.map V.int) us → Vals (r'.map V.int) us' → fin = decide (us.length < us'.length) → Q (lx r r') s →
    KatLex prog w A b fin Q (us.zip us') i s
  | [], [], us, us', i, ru, ru', hf, q => by cases ru; cases ru'; exact kat_nil (by rw [hf]; exact q)
  | [], _ :: _, us, us', i, ru, ru', hf, q => by
    cases ru; cases ru' with
    | cons _ _ => exact kat_nil (by rw [hf]; simpa [lx] using q)
  | _ :: _, [], us, us', i, ru, ru', hf, q => by
    cases ru'; cases ru with
    | cons _ _ => exact kat_nil (by rw [hf]; simpa [lx] using q)
  | x :: r, y :: r', us, us', i, ru, ru', hf, q => by
    cases ru with
    | cons rx ru =>
    cases ru' with
    | cons ry ru' =>
    obtain ⟨t, rfl⟩ := rx
    obtain ⟨t', rfl⟩ := ry
    refine kat_cons (wpAny_eqBool_int ?_)
    unfold lx at q
    by_cases e : x = y
    · subst e
      rw [if_pos rfl] at q
      rw [show (x == x) = true from by simp]
      exact kat_yes (vals_lex ru ru' (by rw [hf]; simp) q)
    · rw [if_neg e] at q
      rw [show (x == y) = false from by simpa using e]
      refine kat_no ?_
      cases (b && i == 0) with
      | true => exact oneLt_int q
      | false => exact kat_one _ _ (lt_int q)
theorem kat_tups {h : Heap} : ∀ {ps : List (Addr × List Int)}, (∀ a ∈ ps, RowAt h a.1 a.2 ∧ a.2 ≠ []) → ∃ fs, KatTups h (ps.map fun a => Value.ref a.1) fs ∧ fs.length = ps.length ∧ ∀ v ∈ fs, ∃ i t, v = Value.int i t
  | [], _ => ⟨[], KatTups.nil, rfl, fun _ z => nomatch z⟩
  | (a, r) :: ps, hp => by
    obtain ⟨fs, k, l, f⟩ := kat_tups fun a ha => hp a (.tail _ ha)
    obtain ⟨⟨o, items, n, ho, hc, hd, hv⟩, hn⟩ := hp (a, r) (.head _)
    match r, hn, hv with
    | x :: r, _, hv =>
      obtain ⟨u, hu, t, e⟩ := Vals.get (i := 0) hv rfl
      refine ⟨u :: fs, KatTups.cons ho hc hd (by rw [← hu]; simp) k, by simp [l], fun v hv => ?_⟩
      rcases List.mem_cons.mp hv with rfl | hv
      · exact ⟨x, t, e⟩
      · exact f v hv
theorem range_map {α : Type} (d : α) (l : List α) : (List.range l.length).map (fun i => l.getD i d) = l := by
  apply List.ext_getElem
  · simp
  · intro i h1 h2
    simp [List.getD, h2]
theorem vals_of_refs : ∀ (ps : List (Addr × List Int)), Vals (ps.map fun a => V.ref a.1) (ps.map fun a => Value.ref a.1)
  | [] => .nil
  | _ :: ps => .cons rfl (vals_of_refs ps)
theorem call_sortT : CallR X (.builtin "sorted") (fun xs H Q => ∃ p, ∃ ps : List (Addr × List Int), xs = [.ref p] ∧ SqL X.K H p (ps.map fun a => V.ref a.1) ∧ ps.length < 64 ∧ (∀ a ∈ ps, H a.1 = some (.tup (a.2.map V.int)) ∧ a.2 ≠ []) ∧
    ∀ l qs, H l = none → List.Perm qs ps → qs.Pairwise (fun a b => lx b.2 a.2 = false) → Q (.ref l) (upd H l (.lst (qs.map fun a => V.ref a.1)))) := by
  intro pins s σ H xs us Q I r h
  obtain ⟨p, ps, rfl, hq, h64, hrow, q⟩ := h
  obtain ⟨u, rfl, rx⟩ := vals1 r
  cases rx
  obtain ⟨its, r', pl, hz⟩ := I.list hq
  have ei := vals_refs r'
  subst ei
  have hlen : (ps.map fun a => Value.ref a.1).length = ps.length := by simp
  by_cases h2 : ps.length < 2
  · refine sorted_short pl.isList (by omega) ?_
    have sz : ((s.heap.push (seqObj "list" #[] 0)).update s.heap.objs.size (Obj.mapSeq (· ++ (ps.map fun a => Value.ref a.1).toArray))).objs.size = s.heap.objs.size + 1 := by rw [Heap.size_update, size_push']
    have kp : ∀ b o, s.heap.get? b = some o → (sortedAll s.heap (ps.map fun a => Value.ref a.1) (ps.map fun a => Value.ref a.1).toArray).get? b = some o := fun b o e => by
      have lb : b < s.heap.objs.size := Heap.lt_size e
      unfold sortedAll sortedHeap
      rw [Heap.get?_update_ne _ _ _ _ (Nat.ne_of_lt (Nat.lt_succ_of_lt lb))]
      refine Heap.get?_push_of_some _ (Heap.get?_push_of_some _ ?_)
      rw [Heap.get?_update_ne _ _ _ _ (Nat.ne_of_lt (Nat.lt_succ_of_lt lb))]
      refine Heap.get?_push_of_some _ ?_
      rw [Heap.get?_update_ne _ _ _ _ (Nat.ne_of_lt lb)]
      exact Heap.get?_push_of_some _ e
    obtain ⟨c, ec⟩ : ∃ c, (sortedAll s.heap (ps.map fun a => Value.ref a.1) (ps.map fun a => Value.ref a.1).toArray).get? (s.heap.objs.size + 1) = some (seqObj "list" (ps.map fun a => Value.ref a.1).toArray c) := by
      have e0 := Heap.get?_push_size ((s.heap.push (seqObj "list" #[] 0)).update s.heap.objs.size (Obj.mapSeq (· ++ (ps.map fun a => Value.ref a.1).toArray))) (o := seqObj "list" (ps.map fun a => Value.ref a.1).toArray 0) rfl
      rw [sz] at e0
      unfold sortedAll sortedHeap
      have e1 := get?_update_seq e0 (fun _ => (#[] : Array Value))
      exact ⟨_, get?_update_seq (Heap.get?_push_of_some _ (Heap.get?_push_of_some _ e1)) _⟩
    refine ⟨.ref (s.heap.objs.size + 1), _, I.laid (t' := s.toks) kp (Nat.le_succ _) (show ObjOk X.prog X.w _ _ _ (.lst (ps.map fun a => V.ref a.1)) from ⟨hz, _, c, r', ec⟩), rfl, q _ ps (I.hok.fresh (Nat.le_succ _)) (List.Perm.refl _) ?_⟩
    match ps, h2 with
    | [], _ => exact .nil
    | [_], _ => exact List.pairwise_singleton _ _
  · obtain ⟨m, F⟩ := I.fr
    refine kat_sorted F (news_all (g := X.base) (h := s.heap)) pl.isList (by omega) (by omega) fun D e1 h' F' N' lt => ?_
    have keep : ∀ b o, b ≠ X.env.locals → s.heap.get? b = some o → h'.get? b = some o := fun b o hb e => by
      cases q : X.base.get? b with
      | some u =>
        have := I.bk b u q
        rw [e] at this; cases this
        exact F'.keep b _ q
      | none => exact (N' (b, o) (.tail _ (mem_allNews hb q e))).1
    have rowAt : ∀ a ∈ ps, RowAt h' a.1 a.2 ∧ a.2 ≠ [] := fun a ha => by
      obtain ⟨ht, hn⟩ := hrow a ha
      obtain ⟨_, its, rv, o, e, c, n, d⟩ := I.hok a.1 _ ht
      refine ⟨⟨o, _, n, keep a.1 o (fun z => ?_) e, c, d, rv⟩, hn⟩
      rw [z, I.free] at ht; cases ht
    obtain ⟨fs, kt, lf, hf⟩ := kat_tups rowAt
    refine kat_kind (T := .type "int") kt (by omega) (fun v hv => ?_) (by decide) ?_
    · obtain ⟨i, t, rfl⟩ := hf v hv
      exact Looks.now
    have n1 : 1 ≤ (ps.map fun a => Value.ref a.1).length := by omega
    refine KOK.wp (c := cf fun i => rk (ps.map (·.2)) ((ps.map (·.2)).getD i [])) (fun i j C hi hj hC => ?_) (fun pp hp => ?_) _ (sort_ok (f := fun i => rk (ps.map (·.2)) ((ps.map (·.2)).getD i [])) n1)
    · have hi' : i < ps.length := by omega
      have hj' : j < ps.length := by omega
      obtain ⟨⟨o, items, n, ho, hc, hd, hv⟩, hn⟩ := rowAt ps[i] (List.getElem_mem hi')
      obtain ⟨⟨o', items', n', ho', hc', hd', hv'⟩, hn'⟩ := rowAt ps[j] (List.getElem_mem hj')
      unfold kas_ask
      have ei : (ps.map fun a => Value.ref a.1).getD i Value.none = .ref ps[i].1 := by simp [hi']
      have ej : (ps.map fun a => Value.ref a.1).getD j Value.none = .ref ps[j].1 := by simp [hj']
      rw [ei, ej]
      refine kat_lt ho hd ho' hd' (vals_lex hv hv' (by simp) ?_)
      have e : cf (fun i => rk (ps.map (·.2)) ((ps.map (·.2)).getD i [])) i j = lx ps[i].2 ps[j].2 := by
        unfold cf
        have e1 : (ps.map (·.2)).getD i [] = ps[i].2 := by simp [hi']
        have e2 : (ps.map (·.2)).getD j [] = ps[j].2 := by simp [hj']
        simp only [e1, e2]
        exact rk_lt (List.mem_map.mpr ⟨ps[i], List.getElem_mem hi', rfl⟩)
      rw [e] at hC
      exact hC
    · obtain ⟨pm, up⟩ := hp
      refine KasFin.intro F' N' (UpdF.head fun x hx => Nat.ne_of_lt (lt x hx)) fun h2' c F2 N2 => ?_
      have pl : pp.toList.Perm (List.range ps.length) := by
        have := pm.toList
        rw [hlen] at this
        simpa using this
      have eo : (pp.toList.map fun i => (ps.map fun a => Value.ref a.1).getD i Value.none) = (pp.toList.map fun i => ps.getD i (0, [])).map fun a => Value.ref a.1 := by
        rw [List.map_map]
        refine List.map_congr_left fun i hi => ?_
        have hi' : i < ps.length := List.mem_range.mp (pl.mem_iff.mp hi)
        simp [hi']
      have perm : (pp.toList.map fun i => ps.getD i (0, [])).Perm ps := by
        have := pl.map fun i => ps.getD i (0, [])
        rwa [range_map] at this
      rw [eo] at N2
      have hzz : ((pp.toList.map fun i => ps.getD i (0, [])).map fun a => V.ref a.1).length ≤ sizeLine := by
        rw [List.length_map, perm.length_eq, sizeLine_eq]; omega
      obtain ⟨I2, hD⟩ := I.sortedTo F F2 N2 lt (vals_of_refs _) hzz
      refine ⟨.ref D, _, I2, rfl, q D _ hD perm ?_⟩
      rw [List.pairwise_iff_getElem]
      intro i j hi hj hij
      simp only [List.length_map, Array.length_toList] at hi hj
      simp only [List.getElem_map, Array.getElem_toList]
      have hn : pp.size = ps.length := by rw [pm.size]; exact hlen
      have key := up i j (Nat.le_of_lt hij) (by omega)
      have a1 : pp[i] < ps.length := List.mem_range.mp (pl.mem_iff.mp (by simp))
      have a2 : pp[j] < ps.length := List.mem_range.mp (pl.mem_iff.mp (by simp))
      unfold g at'  at key
      simp only [hi, hj, getElem?_pos, Option.getD_some] at key
      have e1 : (ps.map (·.2)).getD pp[i] [] = ps[pp[i]].2 := by simp [a1]
      have e2 : (ps.map (·.2)).getD pp[j] [] = ps[pp[j]].2 := by simp [a2]
      rw [e1, e2] at key
      have e3 : ps.getD pp[i] (0, []) = ps[pp[i]] := by simp [a1]
      have e4 : ps.getD pp[j] (0, []) = ps[pp[j]] := by simp [a2]
      rw [e3, e4]
      have := rk_lt (rs := ps.map (·.2)) (a := ps[pp[j]].2) (b := ps[pp[i]].2) (List.mem_map.mpr ⟨_, List.getElem_mem a2, rfl⟩)
      rw [← this]
      simp only [decide_eq_false_iff_not]
      omega
end
end L2
set_option Elab.async false
set_option linter.all false
set_option maxRecDepth 100000
set_option maxHeartbeats 4000000
namespace L2
open PySem PySem.Spec PyProof.Rows
def notStar : Expr → Bool
  | .Starred _ _ => false
  | _ => true
theorem star_cons {e : Expr} {es : List Expr} {env : Env} (h : notStar e = true) : starEach (e :: es) env = (false, eval e env) :: starEach es env := by
  cases e <;> first | rfl | cases h
@[irreducible] def PA2 (X : Cx) (es : List Expr) (t : TA) : Prop := PA X es t
theorem pa_out {X : Cx} {es : List Expr} {t : TA} (h : PA2 X es t) : PA X es t := by unfold PA2 at h; exact h
theorem pa_in {X : Cx} {es : List Expr} {t : TA} (h : PA X es t) : PA2 X es t := by unfold PA2; exact h
theorem pa_n {X : Cx} : PA2 X [] tNil := pa_in pa_nil
theorem pa_c {X : Cx} {e : Expr} {es : List Expr} {te : TE} {t : TA} (ha : PE X e te) (hr : PA2 X es t) (hn : notStar e = true) : PA2 X (e :: es) (tCons te t) := pa_in (pa_cons ha (pa_out hr) (star_cons hn))
@[irreducible] def PSs2 (X : Cx) (es : List Stmt) (t : TS) : Prop := PSs X es t
theorem bl_out {X : Cx} {es : List Stmt} {t : TS} (h : PSs2 X es t) : PSs X es t := by unfold PSs2 at h; exact h
theorem bl_in {X : Cx} {es : List Stmt} {t : TS} (h : PSs X es t) : PSs2 X es t := by unfold PSs2; exact h
theorem bl_1 {X : Cx} {a : Stmt} {t : TS} (h : PS X a t) : PSs2 X [a] t := bl_in (pss_one h)
theorem bl_c {X : Cx} {a b : Stmt} {rest : List Stmt} {t u : TS} (h : PS X a t) (hr : PSs2 X (b :: rest) u) : PSs2 X (a :: b :: rest) (tSeq t u) := bl_in (pss_cons h (bl_out hr))
end L2
namespace L2
open PySem PySem.Spec PyProof.Rows
section
variable {K : PySem.W.Frag} {a : Addr} {xs : List V} {n : Nat} {caps : List Nat} {g : TG} {tc : TT} {te : TE} {σ : St} {H : Hp} {Qf : Addr → Hp → List V → Prop}
theorem comp_of {J : It} (Pv : Nat → St → List V → Hp → Prop) (len : Nat) (h0 : Pv 0 (tau0 n caps σ) [] H) (hn : len ≤ 1000) (hl : ∀ i τ acc H, Pv i τ acc H → acc.length ≤ i)
    (hgo : ∀ i τ acc H, i < len → Pv i τ acc H → J.go i H) (hstop : ∀ τ acc H, Pv len τ acc H → J.stop len H)
    (hs : ∀ i τ acc H (C : St → List V → Hp → Prop), i < len → Pv i τ acc H → (∀ τ acc H, Pv (i + 1) τ acc H → C τ acc H) → ∀ x H', J.yld i H x H' → g x τ H' fun τ2 H2 => tc τ2 H2 fun b H3 => if b = true then te τ2 H3 fun y H4 => C τ2 (acc ++ [y]) H4 else C τ2 acc H3)
    (hd : ∀ τ acc H, Pv len τ acc H → ∀ p, H p = none → Qf p H acc) :
    ∃ W : Nat → Nat → St → List V → Hp → Prop, (∃ m, W 0 m (tau0 n caps σ) [] H) ∧ ∀ i m τ acc H, W i m τ acc H →
      (J.stop i H ∧ acc.length ≤ sizeLine ∧ ∀ p, H p = none → Qf p H acc) ∨
      (J.go i H ∧ acc.length < sizeLine ∧ ∀ x H', J.yld i H x H' → g x τ H' fun τ2 H2 => tc τ2 H2 fun b H3 => if b = true then te τ2 H3 fun y H4 => ∃ m', m' < m ∧ W (i + 1) m' τ2 (acc ++ [y]) H4 else ∃ m', m' < m ∧ W (i + 1) m' τ2 acc H3) := by
  have line : 1001 ≤ sizeLine := by rw [sizeLine_eq]; decide
  refine ⟨fun i m τ acc H => m = len - i ∧ i ≤ len ∧ Pv i τ acc H, ⟨len, by simp, Nat.zero_le _, h0⟩, ?_⟩
  rintro i m τ acc H ⟨rfl, hi, p⟩
  have q := hl i τ acc H p
  by_cases hlt : i < len
  · exact .inr ⟨hgo i τ acc H hlt p, by omega, fun x H' y => hs i τ acc H (fun τ acc H => ∃ m', m' < len - i ∧ m' = len - (i + 1) ∧ i + 1 ≤ len ∧ Pv (i + 1) τ acc H) hlt p (fun τ acc H p' => ⟨len - (i + 1), by omega, rfl, hlt, p'⟩) x H' y⟩
  · have e : i = len := by omega
    subst e
    exact .inl ⟨hstop τ acc H p, by omega, hd τ acc H p⟩
theorem comp_tup (Pv : Nat → St → List V → Hp → Prop) (h0 : Pv 0 (tau0 n caps σ) [] H) (hn : xs.length ≤ 1000) (hl : ∀ i τ acc H, Pv i τ acc H → acc.length ≤ i ∧ SqT K H a xs)
    (hs : ∀ i x τ acc H (C : St → List V → Hp → Prop), xs[i]? = some x → Pv i τ acc H → (∀ τ acc H, Pv (i + 1) τ acc H → C τ acc H) → g x τ H fun τ2 H2 => tc τ2 H2 fun b H3 => if b = true then te τ2 H3 fun y H4 => C τ2 (acc ++ [y]) H4 else C τ2 acc H3)
    (hd : ∀ τ acc H, Pv xs.length τ acc H → ∀ p, H p = none → Qf p H acc) :
    ∃ W : Nat → Nat → St → List V → Hp → Prop, (∃ m, W 0 m (tau0 n caps σ) [] H) ∧ ∀ i m τ acc H, W i m τ acc H →
      ((Itt K a).stop i H ∧ acc.length ≤ sizeLine ∧ ∀ p, H p = none → Qf p H acc) ∨
      ((Itt K a).go i H ∧ acc.length < sizeLine ∧ ∀ x H', (Itt K a).yld i H x H' → g x τ H' fun τ2 H2 => tc τ2 H2 fun b H3 => if b = true then te τ2 H3 fun y H4 => ∃ m', m' < m ∧ W (i + 1) m' τ2 (acc ++ [y]) H4 else ∃ m', m' < m ∧ W (i + 1) m' τ2 acc H3) :=
  comp_of (J := Itt K a) Pv xs.length h0 hn (fun i τ acc H p => (hl i τ acc H p).1) (fun i τ acc H hi p => ⟨xs, xs[i], (hl i τ acc H p).2, by simp [hi]⟩) (fun τ acc H p => ⟨xs, (hl _ τ acc H p).2, Nat.le_refl _⟩)
    (fun i τ acc H C hi p c x H' y => by obtain ⟨e, y⟩ := y; subst e; exact hs i x τ acc _ C (y xs (hl i τ acc _ p).2) p c) hd
theorem comp_list (Pv : Nat → St → List V → Hp → Prop) (h0 : Pv 0 (tau0 n caps σ) [] H) (hn : xs.length ≤ 1000) (hl : ∀ i τ acc H, Pv i τ acc H → acc.length ≤ i ∧ SqL K H a xs)
    (hs : ∀ i x τ acc H (C : St → List V → Hp → Prop), xs[i]? = some x → Pv i τ acc H → (∀ τ acc H, Pv (i + 1) τ acc H → C τ acc H) → g x τ H fun τ2 H2 => tc τ2 H2 fun b H3 => if b = true then te τ2 H3 fun y H4 => C τ2 (acc ++ [y]) H4 else C τ2 acc H3)
    (hd : ∀ τ acc H, Pv xs.length τ acc H → ∀ p, H p = none → Qf p H acc) :
    ∃ W : Nat → Nat → St → List V → Hp → Prop, (∃ m, W 0 m (tau0 n caps σ) [] H) ∧ ∀ i m τ acc H, W i m τ acc H →
      ((Itl K a).stop i H ∧ acc.length ≤ sizeLine ∧ ∀ p, H p = none → Qf p H acc) ∨
      ((Itl K a).go i H ∧ acc.length < sizeLine ∧ ∀ x H', (Itl K a).yld i H x H' → g x τ H' fun τ2 H2 => tc τ2 H2 fun b H3 => if b = true then te τ2 H3 fun y H4 => ∃ m', m' < m ∧ W (i + 1) m' τ2 (acc ++ [y]) H4 else ∃ m', m' < m ∧ W (i + 1) m' τ2 acc H3) :=
  comp_of (J := Itl K a) Pv xs.length h0 hn (fun i τ acc H p => (hl i τ acc H p).1) (fun i τ acc H hi p => ⟨xs, xs[i], (hl i τ acc H p).2, by simp [hi]⟩) (fun τ acc H p => ⟨xs, (hl _ τ acc H p).2, Nat.le_refl _⟩)
    (fun i τ acc H C hi p c x H' y => by obtain ⟨e, y⟩ := y; subst e; exact hs i x τ acc _ C (y xs (hl i τ acc _ p).2) p c) hd
theorem for_enumL {tb : TS} {D : Ends} (Pv : Nat → St → Hp → Prop) (h0 : Pv 0 σ H) (hl : ∀ i σ H, i ≤ xs.length → Pv i σ H → SqL K H a xs)
    (hs : ∀ i x q σ H, xs[i]? = some x → H q = none → Pv i σ H → g (.ref q) σ (upd H q (.tup [.int i, x])) fun σ2 H2 => tb { D with nx := Pv (i + 1), ct := Pv (i + 1), bk := D.nx } σ2 H2) (hd : ∀ σ H, Pv xs.length σ H → D.nx σ H) :
    ∃ W : Nat → Nat → St → Hp → Prop, (∃ m, W 0 m σ H) ∧ ∀ i m σ H, W i m σ H →
      ((IteL K a).stop i H ∧ D.nx σ H) ∨ ((IteL K a).go i H ∧ ∃ N : St → Hp → Prop, (∀ σ' H', N σ' H' → ∃ m', m' < m ∧ W (i + 1) m' σ' H') ∧ ∀ x H', (IteL K a).yld i H x H' → g x σ H' fun σ2 H2 => tb { D with nx := N, ct := N, bk := D.nx } σ2 H2) := by
  refine ⟨fun i m σ H => m = xs.length - i ∧ i ≤ xs.length ∧ Pv i σ H, ⟨xs.length, by simp, Nat.zero_le _, h0⟩, ?_⟩
  rintro i m σ H ⟨rfl, hi, p⟩
  have q := hl i σ H hi p
  by_cases hlt : i < xs.length
  · refine .inr ⟨⟨xs, xs[i], q, by simp [hlt]⟩, Pv (i + 1), fun σ' H' p' => ⟨xs.length - (i + 1), by omega, rfl, hlt, p'⟩, fun x H' y => ?_⟩
    obtain ⟨q', x', hq, e1, e2, y⟩ := y
    subst e1; subst e2
    exact hs i x' q' σ _ (y xs q) hq p
  · have e : i = xs.length := by omega
    subst e
    exact .inl ⟨⟨xs, q, Nat.le_refl _⟩, hd σ H p⟩
end
end L2
namespace Sm
open PySem L2 SmSort
def But (p : Addr) (H H' : Hp) : Prop := ∀ b u, b ≠ p → H b = some u → H' b = some u
theorem But.refl (p : Addr) (H : Hp) : But p H H := fun _ _ _ h => h
theorem But.trans {p : Addr} {H H1 H2 : Hp} (a : But p H H1) (b : But p H1 H2) : But p H H2 := fun c u n h => b c u n (a c u n h)
theorem But.set {p : Addr} {H : Hp} {o : HO} : But p H (upd H p o) := fun b u n h => by rw [upd_ne n]; exact h
theorem But.new {p l : Addr} {H : Hp} {o : HO} (h : H l = none) : But p H (upd H l o) := fun b u n e => by rw [upd_ne (ne_of_none e h)]; exact e
def Purse (H : Hp) (p : Addr) : Prop := ∃ a b c : Int, H p = some (.lst [.int a, .int b, .int c])
def Go (p : Addr) (H H' : Hp) : Prop := But p H H' ∧ Purse H' p
theorem Go.trans {p : Addr} {H H1 H2 : Hp} (a : Go p H H1) (b : Go p H1 H2) : Go p H H2 := ⟨a.1.trans b.1, b.2⟩
theorem Go.refl {p : Addr} {H : Hp} (a : Purse H p) : Go p H H := ⟨But.refl p H, a⟩
theorem Purse.new {p l : Addr} {H : Hp} {o : HO} (a : Purse H p) (h : H l = none) : Purse (upd H l o) p := by
  obtain ⟨x, y, z, e⟩ := a
  exact ⟨x, y, z, by rw [upd_ne (ne_of_none e h)]; exact e⟩
theorem Purse.ne {p l : Addr} {H : Hp} (a : Purse H p) (h : H l = none) : l ≠ p := by
  obtain ⟨x, y, z, e⟩ := a
  exact (ne_of_none e h).symm
theorem Go.new {p l : Addr} {H H1 : Hp} {o : HO} (a : Go p H H1) (h : H1 l = none) : Go p H (upd H1 l o) := ⟨a.1.trans (But.new h), a.2.new h⟩
theorem Purse.tup {p t : Addr} {H : Hp} {xs : List V} (a : Purse H p) (h : H t = some (.tup xs)) : t ≠ p := by
  obtain ⟨x, y, z, e⟩ := a
  exact ne_of h e (by intro z; cases z)
def Tups (H H' : Hp) : Prop := ∀ b xs, H b = some (.tup xs) → H' b = some (.tup xs)
theorem Go.tups {p : Addr} {H H' : Hp} (a : Go p H H') (h : Purse H p) : Tups H H' := fun b xs e => a.1 b _ (h.tup e) e
theorem Tups.new {l : Addr} {H : Hp} {o : HO} (h : H l = none) : Tups H (upd H l o) := fun b u e => by rw [upd_ne (ne_of_none e h)]; exact e
theorem Tups.set {l : Addr} {H : Hp} {xs : List V} {o : HO} (h : H l = some (.lst xs)) : Tups H (upd H l o) := fun b u e => by rw [upd_ne (ne_of e h (by intro z; cases z))]; exact e
theorem Tups.same {H H' : Hp} (h : Same H H') : Tups H H' := fun b u e => h b _ e
structure M4 where
  lo : Int
  hi : Int
  t : Int
  m : Int
def M4.vs (r : M4) : List V := [.int r.lo, .int r.hi, .int r.t, .int r.m]
def apart (a b : M4) : Prop := a.lo ≠ b.lo ∧ a.lo ≠ b.hi ∧ a.hi ≠ b.lo ∧ a.hi ≠ b.hi
structure Good (w : Int) (ms : List M4) : Prop where
  few : ms.length ≤ 60
  each : ∀ r ∈ ms, 0 ≤ r.lo ∧ r.lo < r.hi ∧ r.hi < w ∧ 1 ≤ r.t ∧ r.t ≤ 1000000000 ∧ 1 ≤ r.m ∧ r.m ≤ 99
  order : ms.Pairwise fun a b => a.t < b.t ∨ (a.t = b.t ∧ a.lo < b.lo ∧ apart a b)
def RowsAt (H : Hp) (ps : List (Addr × M4)) : Prop := ∀ a ∈ ps, H a.1 = some (.tup a.2.vs)
structure BookAt (H : Hp) (b : Addr) (rooms : List Int) (tr tm : Addr) (ps : List (Addr × M4)) : Prop where
  book : H b = some (.tup [.ref tr, .ref tm])
  rooms : H tr = some (.tup (rooms.map V.int))
  meets : H tm = some (.tup (ps.map fun a => V.ref a.1))
  rows : RowsAt H ps
theorem RowsAt.tups {H H' : Hp} {ps : List (Addr × M4)} (a : RowsAt H ps) (t : Tups H H') : RowsAt H' ps := fun x hx => t _ _ (a x hx)
theorem BookAt.tups {H H' : Hp} {b tr tm : Addr} {rooms : List Int} {ps : List (Addr × M4)} (a : BookAt H b rooms tr tm ps) (t : Tups H H') : BookAt H' b rooms tr tm ps :=
  ⟨t _ _ a.book, t _ _ a.rooms, t _ _ a.meets, a.rows.tups t⟩
def spLaw (K : PySem.W.Frag) : Sp := fun vs H Q _ => ∃ (a : Addr) (ns : List Int), vs = [.ref a] ∧ SqL K H a (ns.map V.int) ∧ ns.length ≤ 63 ∧ ∀ H', Q (.bl true) H'
def spPurse (K : PySem.W.Frag) : Sp := fun vs H Q _ => ∃ (a : Addr) (ns : List Int) (k : Nat), vs = [.ref a, .int k] ∧ SqL K H a (ns.map V.int) ∧ k < 1000 ∧ ∀ p H', H p = none → Purse H' p → Same H H' → Q (.ref p) H'
def spTake : Sp := fun vs H Q _ => ∃ p n, vs = [.ref p, .int n] ∧ 0 < n ∧ n < 2 ^ 200 ∧ Purse H p ∧ ∀ d H', 0 ≤ d → d < n → Go p H H' → Q (.int d) H'
def spFar : Sp := fun vs H Q _ => ∃ p, vs = [.ref p] ∧ Purse H p ∧ ∀ d H', 0 ≤ d → d ≤ 1000000000 → Go p H H' → Q (.int d) H'
def spRooms : Sp := fun vs H Q _ => ∃ p, ∃ n : Nat, vs = [.ref p, .int n] ∧ n ≤ 1000 ∧ Purse H p ∧ ∀ (t : Addr) (rooms : List Int) (H' : Hp), Go p H H' → H' t = some (.tup (rooms.map V.int)) → rooms.length = n → (∀ r ∈ rooms, (0 : Int) ≤ r ∧ r ≤ 99) → Q (.ref t) H'
def spStep : Sp := fun vs H Q _ => ∃ p, vs = [.ref p] ∧ Purse H p ∧ ∀ d H', 0 ≤ d → d ≤ 16000000 → Go p H H' → Q (.int d) H'
def spMeetings : Sp := fun vs H Q _ => ∃ p, ∃ w : Int, ∃ n : Nat, vs = [.ref p, .int w, .int n] ∧ n ≤ 60 ∧ w < 1000 ∧ (n = 0 ∨ 2 ≤ w) ∧ Purse H p ∧
  ∀ (t : Addr) (ps : List (Addr × M4)) (H' : Hp), Go p H H' → H' t = some (.tup (ps.map fun a => V.ref a.1)) → RowsAt H' ps → Good w (ps.map (·.2)) → ps.length = n → Q (.ref t) H'
def spBook : Sp := fun vs H Q _ => ∃ p, ∃ a : Int, ∃ n : Nat, vs = [.ref p, .int a, .int n] ∧ 1 ≤ a ∧ a ≤ 100 ∧ n ≤ 60 ∧ Purse H p ∧
  ∀ (b : Addr) (rooms : List Int) (tr tm : Addr) (ps : List (Addr × M4)) (H' : Hp), Go p H H' → BookAt H' b rooms tr tm ps → 1 ≤ rooms.length → (rooms.length : Int) ≤ a → (∀ r ∈ rooms, (0 : Int) ≤ r ∧ r ≤ 99) → Good rooms.length (ps.map (·.2)) → ps.length ≤ n → Q (.ref b) H'
theorem iteD {c A B : Prop} [Decidable c] (h1 : c → A) (h2 : ¬ c → B) : if decide c = true then A else B := by
  by_cases h : c
  · rw [if_pos (decide_eq_true h)]; exact h1 h
  · rw [if_neg (by simpa using h)]; exact h2 h
theorem iteB0 {c : Bool} {A B : Prop} (hc : c = false) (h : B) : if c = true then A else B := by
  rw [if_neg (by rw [hc]; exact Bool.false_ne_true)]; exact h
theorem iteB1 {c : Bool} {A B : Prop} (hc : c = true) (h : A) : if c = true then A else B := by
  rw [if_pos hc]; exact h
theorem iteB {c : Bool} {A B : Prop} (h1 : c = true → A) (h2 : c = false → B) : if c = true then A else B := by
  cases c with
  | true => exact h1 rfl
  | false => exact h2 rfl
theorem same_new {H : Hp} {p : Addr} {o : HO} (h : H p = none) : Same H (upd H p o) := fun b u e => by
  rw [upd_ne (ne_of_none e h)]; exact e
def M4.row (r : M4) : List Int := [r.t, r.lo, r.hi, r.m]
structure FOk (w when' : Int) (bs : List Int) (fs : List (Addr × M4)) : Prop where
  each : ∀ a ∈ fs, 0 ≤ a.2.lo ∧ a.2.lo < a.2.hi ∧ a.2.hi < w ∧ 1 ≤ a.2.t ∧ a.2.t ≤ when' ∧ 1 ≤ a.2.m ∧ a.2.m ≤ 99
  pw : fs.Pairwise fun a b => a.2.t = b.2.t → apart a.2 b.2
  bz : ∀ a ∈ fs, a.2.t = when' → a.2.lo ∈ bs ∧ a.2.hi ∈ bs
theorem FOk.step {w wh gap one other m : Int} {bs bs' : List Int} {fs : List (Addr × M4)} {a : Addr} (F : FOk w wh bs fs) (h1 : 1 ≤ wh) (g0 : 0 ≤ gap) (o0 : 0 ≤ one) (o1 : one < w) (p0 : 0 ≤ other) (p1 : other < w) (ne : one ≠ other)
    (m0 : 1 ≤ m) (m1 : m ≤ 99) (hg : gap = 0 → one ∉ bs ∧ other ∉ bs) (hb : ∀ x ∈ bs, gap = 0 → x ∈ bs') (hb1 : one ∈ bs') (hb2 : other ∈ bs') :
    FOk w (wh + gap) bs' (fs ++ [(a, ⟨if other < one then other else one, if other > one then other else one, wh + gap, m⟩)]) := by
  refine ⟨fun b hb => ?_, ?_, fun b hm e => ?_⟩
  · rcases List.mem_append.mp hb with h | h
    · obtain ⟨a1, a2, a3, a4, a5, a6, a7⟩ := F.each b h
      exact ⟨a1, a2, a3, a4, by omega, a6, a7⟩
    · cases List.mem_singleton.mp h
      by_cases c : other < one
      · rw [if_pos c, if_neg (by omega)]; exact ⟨p0, c, o1, by show 1 ≤ wh + gap; omega, Int.le_refl _, m0, m1⟩
      · rw [if_neg c, if_pos (by omega)]; exact ⟨o0, by show one < other; omega, p1, by show 1 ≤ wh + gap; omega, Int.le_refl _, m0, m1⟩
  · rw [List.pairwise_append]
    refine ⟨F.pw, List.pairwise_singleton _ _, fun b hb c hc e => ?_⟩
    cases List.mem_singleton.mp hc
    have e' : b.2.t = wh + gap := e
    obtain ⟨a1, a2, a3, a4, a5, a6, a7⟩ := F.each b hb
    have g : gap = 0 := by omega
    obtain ⟨x1, x2⟩ := F.bz b hb (by omega)
    obtain ⟨n1, n2⟩ := hg g
    have q1 : b.2.lo ≠ one := fun z => n1 (z ▸ x1)
    have q2 : b.2.lo ≠ other := fun z => n2 (z ▸ x1)
    have q3 : b.2.hi ≠ one := fun z => n1 (z ▸ x2)
    have q4 : b.2.hi ≠ other := fun z => n2 (z ▸ x2)
    unfold apart
    dsimp only
    by_cases c : other < one
    · rw [if_pos c, if_neg (by omega)]; exact ⟨q2, q1, q4, q3⟩
    · rw [if_neg c, if_pos (by omega)]; exact ⟨q1, q2, q3, q4⟩
  · rcases List.mem_append.mp hm with h | h
    · obtain ⟨a1, a2, a3, a4, a5, a6, a7⟩ := F.each b h
      obtain ⟨x1, x2⟩ := F.bz b h (by omega)
      exact ⟨hb _ x1 (by omega), hb _ x2 (by omega)⟩
    · cases List.mem_singleton.mp h
      by_cases c : other < one
      · rw [if_pos c, if_neg (by omega)]; exact ⟨hb2, hb1⟩
      · rw [if_neg c, if_pos (by omega)]; exact ⟨hb1, hb2⟩
def M4.late (l : Int) (r : M4) : M4 := ⟨r.lo, r.hi, r.t + l, r.m⟩
theorem FOk.good {w wh l : Int} {bs : List Int} {fs qs : List (Addr × M4)} (F : FOk w wh bs fs) (n : fs.length ≤ 60) (l0 : 0 ≤ l) (l1 : fs ≠ [] → wh + l ≤ 1000000000) (p : qs.Perm fs) (s : qs.Pairwise fun a b => lx b.2.row a.2.row = false) :
    Good w (qs.map fun a => a.2.late l) := by
  refine ⟨by rw [List.length_map, p.length_eq]; exact n, fun r hr => ?_, ?_⟩
  · obtain ⟨a, ha, rfl⟩ := List.mem_map.mp hr
    have hm := p.mem_iff.mp ha
    obtain ⟨a1, a2, a3, a4, a5, a6, a7⟩ := F.each a hm
    have := l1 (List.ne_nil_of_mem hm)
    unfold M4.late
    exact ⟨a1, a2, a3, by show 1 ≤ a.2.t + l; omega, by show a.2.t + l ≤ 1000000000; omega, a6, a7⟩
  · rw [List.pairwise_map]
    have ap : qs.Pairwise fun a b => a.2.t = b.2.t → apart a.2 b.2 := (List.Perm.pairwise_iff (fun {x y} h e => by
      obtain ⟨a1, a2, a3, a4⟩ := h e.symm
      exact ⟨a1.symm, a3.symm, a2.symm, a4.symm⟩) p).mpr F.pw
    refine (s.and ap).imp fun {a b} ⟨h1, h2⟩ => ?_
    unfold M4.late
    dsimp only
    unfold M4.row lx at h1
    by_cases e : a.2.t = b.2.t
    · have q := h2 e
      rw [if_pos e.symm] at h1
      unfold lx at h1
      rw [if_neg fun z => q.1 z.symm] at h1
      simp only [decide_eq_false_iff_not] at h1
      refine .inr ⟨by omega, ?_, q⟩
      have := q.1
      omega
    · rw [if_neg fun z => e z.symm] at h1
      simp only [decide_eq_false_iff_not] at h1
      exact .inl (by omega)
def toM4 (r : List Int) : M4 := ⟨r.getD 1 0, r.getD 2 0, r.getD 0 0, r.getD 3 0⟩
theorem rows_back {fs : List (Addr × M4)} {qs : List (Addr × List Int)} (p : qs.Perm (fs.map fun a => (a.1, a.2.row))) (s : qs.Pairwise fun a b => lx b.2 a.2 = false) :
    ∃ rs : List (Addr × M4), rs.Perm fs ∧ (rs.Pairwise fun a b => lx b.2.row a.2.row = false) ∧ qs = rs.map fun a => (a.1, a.2.row) := by
  have e : qs = (qs.map fun a => (a.1, toM4 a.2)).map fun a => (a.1, a.2.row) := by
    rw [List.map_map]
    refine (List.map_id qs).symm.trans (List.map_congr_left fun x hx => ?_)
    obtain ⟨a, _, rfl⟩ := List.mem_map.mp (p.mem_iff.mp hx)
    rfl
  refine ⟨qs.map fun a => (a.1, toM4 a.2), ?_, ?_, e⟩
  · have := p.map fun a => (a.1, toM4 a.2)
    rw [List.map_map] at this
    refine this.trans (.of_eq ?_)
    refine (List.map_congr_left fun x _ => ?_).trans (List.map_id fs)
    rfl
  · rw [e, List.pairwise_map] at s
    exact s
theorem flat_ints (bs : List Int) : (bs.map V.int).all flatV = true := by
  rw [List.all_eq_true]
  intro x hx
  obtain ⟨b, _, rfl⟩ := List.mem_map.mp hx
  rfl
theorem inV_ints {x : Int} {bs : List Int} : inV (.int x) (bs.map V.int) = decide (x ∈ bs) := by
  unfold inV
  induction bs with
  | nil => rfl
  | cons b bs ih =>
    rw [List.map_cons, List.any_cons, ih]
    by_cases h : x = b
    · subst h; simp [eqV]
    · have h' : ¬ b = x := fun z => h z.symm
      simp [eqV, h, h']
def PvM (p lf : Addr) (w : Int) (n : Nat) (H : Hp) (i : Nat) (σ : St) (H3 : Hp) : Prop :=
  ∃ v6 v7 v8 v9 v10 wh lb bs, ∃ fs : List (Addr × M4), σ = [some (.ref p), some (.int w), some (.int n), some (.ref lf), some (.int wh), some (.ref lb), v6, v7, v8, v9, v10, none] ∧
    H3 lf = some (.lst (fs.map fun a => V.ref a.1)) ∧ H3 lb = some (.lst (List.map V.int bs)) ∧ lb ≠ lf ∧ lb ≠ p ∧ (∀ a ∈ fs, H3 a.1 = some (.tup (a.2.row.map V.int))) ∧ FOk w wh bs fs ∧ fs.length = i ∧ bs.length ≤ 2 * i ∧ 1 ≤ wh ∧ wh ≤ 10000000 + 16000000 * i ∧ Go p H H3
theorem PvM.step {p lf lb t : Addr} {w wh gap one other m : Int} {n i : Nat} {H Hx : Hp} {bs bs' : List Int} {fs : List (Addr × M4)} {v6 v7 v8 v9 v10 : Option V} (npf : lf ≠ p) (hlf : H lf = none)
    (F : FOk w wh bs fs) (lenf : fs.length = i) (lenb : bs'.length ≤ 2 * i + 2) (wh1 : 1 ≤ wh) (wh2 : wh ≤ 10000000 + 16000000 * i) (hf : Hx lf = some (.lst (fs.map fun a => V.ref a.1))) (hb : Hx lb = some (.lst (List.map V.int bs'))) (nb : lb ≠ lf) (nbp : lb ≠ p)
    (rows : ∀ a ∈ fs, Hx a.1 = some (.tup (a.2.row.map V.int))) (go : Go p H Hx) (ht : Hx t = none)
    (g0 : 0 ≤ gap) (g1 : gap ≤ 16000000) (o0 : 0 ≤ one) (o1 : one < w) (p0 : 0 ≤ other) (p1 : other < w) (ne : one ≠ other) (m0 : 1 ≤ m) (m1 : m ≤ 99) (hg : gap = 0 → one ∉ bs ∧ other ∉ bs) (hb0 : ∀ x ∈ bs, gap = 0 → x ∈ bs') (hb1 : one ∈ bs') (hb2 : other ∈ bs') :
    PvM p lf w n H (i + 1) [some (.ref p), some (.int w), some (.int n), some (.ref lf), some (.int (wh + gap)), some (.ref lb), v6, v7, v8, v9, v10, none]
      (upd (upd Hx t (.tup [.int (wh + gap), .int (if other < one then other else one), .int (if other > one then other else one), .int m])) lf (.lst ((fs.map fun a => V.ref a.1) ++ [.ref t]))) := by
  have ntf : t ≠ lf := (ne_of_none hf ht).symm
  refine ⟨v6, v7, v8, v9, v10, wh + gap, lb, bs', fs ++ [(t, ⟨if other < one then other else one, if other > one then other else one, wh + gap, m⟩)], rfl, by rw [upd_same, List.map_append]; rfl, ?_, nb, nbp, fun a ha => ?_, F.step wh1 g0 o0 o1 p0 p1 ne m0 m1 hg hb0 hb1 hb2, by rw [List.length_append, lenf]; rfl, by omega, by omega, by omega, fun b u nb e => ?_, ?_⟩
  · rw [upd_ne nb, upd_ne (ne_of_none hb ht)]; exact hb
  · rcases List.mem_append.mp ha with h | h
    · have := rows a h
      rw [upd_ne (ne_of this hf (by intro z; cases z)), upd_ne (ne_of_none this ht)]; exact this
    · cases List.mem_singleton.mp h
      rw [upd_ne ntf, upd_same]; rfl
  · rw [upd_ne (ne_of_none e hlf), upd_ne (ne_of_none (go.1 b u nb e) ht)]; exact go.1 b u nb e
  · have := go.2.new (o := .tup [.int (wh + gap), .int (if other < one then other else one), .int (if other > one then other else one), .int m]) ht
    obtain ⟨x, y, z, e⟩ := this
    exact ⟨x, y, z, by rw [upd_ne npf.symm]; exact e⟩
theorem oth_ok {one x w : Int} (o0 : 0 ≤ one) (o1 : one < w) (x0 : 0 ≤ x) (x1 : x < w - 1) : 0 ≤ (one + 1 + x) % w ∧ (one + 1 + x) % w < w ∧ one ≠ (one + 1 + x) % w := by
  refine ⟨Int.emod_nonneg _ (by omega), Int.emod_lt_of_pos _ (by omega), ?_⟩
  by_cases h : one + 1 + x < w
  · rw [Int.emod_eq_of_lt (by omega) h]; omega
  · have e : (one + 1 + x) % w = (one + 1 + x - w) % w := by
      have : one + 1 + x = (one + 1 + x - w) + w := by omega
      rw [this, Int.add_emod_right]; congr 1; omega
    rw [e, Int.emod_eq_of_lt (by omega) (by omega)]; omega
theorem Go.same {p : Addr} {H H1 H2 : Hp} (a : Go p H H1) (s : Same H1 H2) : Go p H H2 := ⟨fun b u n e => s b u (a.1 b u n e), by obtain ⟨x, y, z, e⟩ := a.2; exact ⟨x, y, z, s _ _ e⟩⟩
theorem map_get {α : Type} {f : α → V} {l : List α} {i : Nat} {x : V} (h : (l.map f)[i]? = some x) : ∃ r, l[i]? = some r ∧ x = f r := by
  rw [List.getElem?_map] at h
  cases e : l[i]? with
  | none => rw [e] at h; cases h
  | some r => rw [e] at h; exact ⟨r, rfl, (Option.some.inj h).symm⟩
theorem take_snoc {α : Type} {l : List α} {i : Nat} {r : α} (h : l[i]? = some r) : l.take (i + 1) = l.take i ++ [r] := by
  rw [List.take_add_one, h]; rfl
theorem But.same {p : Addr} {H H1 H2 : Hp} (hp : H p = none) (s : Same H H1) (g : But p H1 H2) : Same H H2 := fun b u e => g b u (ne_of_none e hp) (s b u e)
theorem BookAt.same {H H' : Hp} {b tr tm : Addr} {rooms : List Int} {ps : List (Addr × M4)} (a : BookAt H b rooms tr tm ps) (t : Same H H') : BookAt H' b rooms tr tm ps := a.tups (Tups.same t)
def spWhole : Sp := fun vs H Q _ => ∃ x t, vs = [x] ∧ tyS H x = some t ∧ Q (.bl (t == "int")) H
def inB (lo hi : Int) : V → Bool
  | .int i => decide (lo ≤ i) && decide (i ≤ hi)
  | _ => false
def spWithin : Sp := fun vs H Q _ => ∃ x t lo hi, vs = [x, .int lo, .int hi] ∧ tyS H x = some t ∧ Q (.bl (inB lo hi x)) H
theorem tyS_int {H : Hp} {x : V} (h : tyS H x = some "int") : ∃ i, x = .int i := by
  cases x with
  | int i => exact ⟨i, rfl⟩
  | ref a =>
    unfold tyS at h
    dsimp only at h
    split at h <;> simp at h
  | _ => simp [tyS] at h
theorem inB_no {H : Hp} {x : V} {t : String} {lo hi : Int} (h : tyS H x = some t) (n : ¬ t = "int") : inB lo hi x = false := by
  cases x with
  | int i => simp [tyS] at h; exact absurd h.symm n
  | _ => rfl
def hasW (w : Int) (r : M4) : Bool := decide (r.lo = w) || decide (r.hi = w)
def numsTo (ms : List M4) (w : Int) : Nat → List Int
  | 0 => []
  | i + 1 => numsTo ms w i ++ (if (ms[i]?).any (hasW w) = true then [(i : Int)] else [])
end Sm
namespace Sm
open PySem L2 SmSort
def spTimeOf : Sp := fun vs H Q _ => ∃ p b j rooms tr tm ps, vs = [.ref p, .ref b, .int j] ∧ (j = 0 ∨ j = 1) ∧ BookAt H b rooms tr tm ps ∧ Good rooms.length (ps.map (·.2)) ∧ Purse H p ∧ ∀ d H', 0 ≤ d → d ≤ 1000000000 → Go p H H' → Q (.int d) H'
def spLetter : Sp := fun vs H Q _ => ∃ p b rooms tr tm ps, vs = [.ref p, .ref b] ∧ BookAt H b rooms tr tm ps ∧ 1 ≤ rooms.length ∧ rooms.length ≤ 1000 ∧ Good rooms.length (ps.map (·.2)) ∧ Purse H p ∧
  ∀ t (s a w z : Int) H', Go p H H' → H' t = some (.tup [.int s, .int a, .int w, .int z]) → 0 ≤ s → s < rooms.length → 0 ≤ w → w < rooms.length → 0 ≤ a → a ≤ 1000000000 → 0 ≤ z → z ≤ 1000000000 → Q (.ref t) H'
theorem Good.len {w : Int} {ps : List (Addr × M4)} (g : Good w (ps.map (·.2))) : ps.length ≤ 60 := by simpa using g.few
theorem Good.at {w : Int} {ps : List (Addr × M4)} (g : Good w (ps.map (·.2))) {r : Addr × M4} (h : r ∈ ps) : 0 ≤ r.2.lo ∧ r.2.lo < r.2.hi ∧ r.2.hi < w ∧ 1 ≤ r.2.t ∧ r.2.t ≤ 1000000000 ∧ 1 ≤ r.2.m ∧ r.2.m ≤ 99 := g.each _ (List.mem_map.mpr ⟨r, h, rfl⟩)
end Sm
namespace L2
open PySem PySem.Spec PyProof.Rows
end L2
set_option Elab.async false
set_option linter.all false
set_option maxRecDepth 100000
set_option maxHeartbeats 4000000
namespace L2
open PySem PySem.Spec PyProof.Rows
section
variable {X : Cx}
def oV : Option Int → V
  | none => .non
  | some i => .int i
end
end L2
namespace Sm
open PySem L2 SmSort
def spIsWalker : Sp := fun vs H Q _ => ∃ b x t rooms tr tm ps, vs = [.ref b, x] ∧ BookAt H b rooms tr tm ps ∧ tyS H x = some t ∧ Q (.bl (inB 0 ((rooms.length : Int) - 1) x)) H
theorem tyS_tup {H : Hp} {l : Addr} {xs : List V} (h : H l = some (.tup xs)) : tyS H (.ref l) = some "tuple" := by simp only [tyS, h]
theorem ixN_nat {n k : Nat} (h : k < n) : ixN n (k : Int) = some k := by
  unfold ixN
  rw [if_pos (by omega), if_pos (by omega)]; simp
end Sm
set_option Elab.async false
set_option linter.all false
set_option maxRecDepth 100000
set_option maxHeartbeats 4000000
namespace Sm
open PySem L2 SmSort
abbrev Fn := Nat → Option Int
def put (f : Fn) (k : Nat) (x : Option Int) : Fn := fun i => if i = k then x else f i
theorem put_same {f : Fn} {k : Nat} {x : Option Int} : put f k x k = x := by unfold put; rw [if_pos rfl]
theorem put_ne {f : Fn} {k i : Nat} {x : Option Int} (h : i ≠ k) : put f k x i = f i := by unfold put; rw [if_neg h]
def lone (k : Nat) (x : Int) : Fn := fun i => if i = k then some x else none
def below (o : Option Int) (t : Int) : Bool := match o with
  | some y => decide (y < t)
  | none => false
theorem below_iff {o : Option Int} {t : Int} : below o t = true ↔ ∃ y, o = some y ∧ y < t := by
  cases o <;> simp [below]
def upto (o : Option Int) (t : Int) : Bool := match o with
  | some y => decide (y ≤ t)
  | none => false
structure W3 where
  g : Nat
  o : Nat
  t : Int
def two (m : M4) : List W3 := [⟨m.lo.toNat, m.hi.toNat, m.t⟩, ⟨m.hi.toNat, m.lo.toNat, m.t⟩]
def ways2 (ms : List M4) : List W3 := ms.flatMap two
def fstep (st : Fn) (x : W3) : Fn := if st x.o = none ∧ below (st x.g) x.t = true then put st x.o (some x.t) else st
def fwd (ms : List M4) (st : Fn) : Fn := (ways2 ms).foldl fstep st
theorem fstep_some {st : Fn} {x : W3} {i : Nat} {y : Int} (h : st i = some y) : fstep st x i = some y := by
  unfold fstep
  split
  · rename_i c
    by_cases e : i = x.o
    · rw [e, c.1] at h; cases h
    · rw [put_ne e]; exact h
  · exact h
def rep (n : Nat) (f : Fn) : List (Option Int) := (List.range n).map f
def spBelow : Sp := fun vs H Q _ => ∃ o t, vs = [oV o, .int t] ∧ Q (.bl (below o t)) H
end Sm
namespace L2
open PySem PySem.Spec PyProof.Rows
section
variable {n : Nat} {caps : List Nat} {g : TG} {tc : TT} {te : TE} {σ : St} {H : Hp} {Qf : Addr → Hp → List V → Prop}
theorem comp_range {lo : Int} {m : Nat} (Pv : Nat → St → List V → Hp → Prop) (h0 : Pv 0 (tau0 n caps σ) [] H) (hn : m ≤ 1000) (hl : ∀ i τ acc H, Pv i τ acc H → acc.length ≤ i)
    (hs : ∀ i τ acc H (C : St → List V → Hp → Prop), i < m → Pv i τ acc H → (∀ τ acc H, Pv (i + 1) τ acc H → C τ acc H) → g (.int (lo + i)) τ H fun τ2 H2 => tc τ2 H2 fun b H3 => if b = true then te τ2 H3 fun y H4 => C τ2 (acc ++ [y]) H4 else C τ2 acc H3)
    (hd : ∀ τ acc H, Pv m τ acc H → ∀ p, H p = none → Qf p H acc) :
    ∃ W : Nat → Nat → St → List V → Hp → Prop, (∃ m, W 0 m (tau0 n caps σ) [] H) ∧ ∀ i m' τ acc H, W i m' τ acc H →
      ((Itr lo m).stop i H ∧ acc.length ≤ sizeLine ∧ ∀ p, H p = none → Qf p H acc) ∨
      ((Itr lo m).go i H ∧ acc.length < sizeLine ∧ ∀ x H', (Itr lo m).yld i H x H' → g x τ H' fun τ2 H2 => tc τ2 H2 fun b H3 => if b = true then te τ2 H3 fun y H4 => ∃ m'', m'' < m' ∧ W (i + 1) m'' τ2 (acc ++ [y]) H4 else ∃ m'', m'' < m' ∧ W (i + 1) m'' τ2 acc H3) :=
  comp_of (J := Itr lo m) Pv m h0 hn hl (fun i τ acc H hi p => hi) (fun τ acc H p => Nat.le_refl _)
    (fun i τ acc H C hi p c x H' y => by obtain ⟨e1, e2⟩ := y; subst e1; subst e2; exact hs i τ acc _ C hi p c) hd
end
end L2
set_option Elab.async false
set_option linter.all false
set_option maxRecDepth 100000
set_option maxHeartbeats 4000000
namespace Sm
open PySem L2 SmSort
def run (ws : List W3) (st : Fn) : Fn := ws.foldl fstep st
theorem run_keep : ∀ {ws : List W3} {st : Fn} {i : Nat} {y : Int}, st i = some y → run ws st i = some y
  | [], _, _, _, h => h
  | w :: ws, st, i, y, h => run_keep (ws := ws) (fstep_some h)
theorem run_from : ∀ {ws : List W3} {st : Fn} {i : Nat} {t : Int}, run ws st i = some t → st i = none → ∃ x ∈ ws, x.o = i ∧ x.t = t ∧ ∃ y, run ws st x.g = some y ∧ y < t
  | [], st, i, t, h, h0 => by
    have : st i = some t := h
    rw [h0] at this; cases this
  | w :: ws, st, i, t, h, h0 => by
    have h' : run ws (fstep st w) i = some t := h
    cases e : fstep st w i with
    | none =>
      obtain ⟨x, hx, a, b, y, hy, lt⟩ := run_from h' e
      exact ⟨x, .tail _ hx, a, b, y, hy, lt⟩
    | some z =>
      have z' := run_keep (ws := ws) e
      rw [h'] at z'; cases z'
      unfold fstep at e
      split at e
      · rename_i c
        by_cases io : i = w.o
        · subst io
          rw [put_same] at e; cases e
          obtain ⟨y, hy, lt⟩ := below_iff.mp c.2
          exact ⟨w, .head _, rfl, rfl, y, run_keep (ws := w :: ws) hy, lt⟩
        · rw [put_ne io, h0] at e; cases e
      · rw [h0] at e; cases e
end Sm
set_option Elab.async false
set_option linter.all false
set_option maxRecDepth 100000
set_option maxHeartbeats 4000000
namespace L2
open PySem PySem.Spec PyProof.Rows
section
variable {X : Cx} {pins : List (Addr × Obj)} {σ : St} {H : Hp} {s : Shared}
theorem Inv.keptAll {m : Str → Option Value} {h' : Heap} {tk : Nat} (I : Inv X pins σ H s) (F0 : Fr X.base X.env.locals s.heap m) (F : Fr X.base X.env.locals h' m)
    (N : News X.base X.env.locals h' (allNews X.base s.heap X.env.locals)) : Inv X pins σ H { s with heap := h', toks := tk } := by
  have keep : ∀ b o, b ≠ X.env.locals → s.heap.get? b = some o → h'.get? b = some o := fun b o hb e => by
    cases q : X.base.get? b with
    | some u =>
      have := I.bk b u q
      rw [e] at this; cases this
      exact F.keep b _ q
    | none => exact (N (b, o) (mem_allNews hb q e)).1
  refine I.step (g' := s.gens) (t' := tk) (d' := s.drawn) (ch := []) (fun _ z => nomatch z) (fun b o hb _ _ e _ => keep b o hb e) (fun b o hb _ _ e _ => ⟨o.slots, keep b o hb e⟩) (fun b o _ e n => n) (fun b o _ e => ?_)
    (fun b ys e => e) (fun b o u e => e) (fun b ps e => ⟨#[], by rw [e, Array.append_empty]⟩) (fun m' hm => ?_) (fun b u e => ?_) I.bare
  · by_cases hb : b = X.env.locals
    · obtain ⟨o', _, _, q, _⟩ := F.ns
      exact ⟨o', by rw [hb]; exact q⟩
    · exact ⟨o, keep b o hb e⟩
  · obtain ⟨o1, es1, ep1, e1, d1, k1, f1⟩ := hm
    obtain ⟨o2, es2, ep2, e2, d2, k2, f2⟩ := F0.ns
    rw [e1] at e2; cases e2
    rw [d1] at d2; cases d2
    obtain ⟨o3, es3, ep3, e3, d3, k3, f3⟩ := F.ns
    exact ⟨o3, es3, ep3, e3, d3, k3, fun name => (f3 name).trans ((f2 name).symm.trans (f1 name))⟩
  · refine (I.hok b u e).stay (fun c v hc q => keep c v (fun z => ?_) q) (fun c q => q) fun c ys q => q
    rcases hc with rfl | hc
    · rw [z, I.free] at e; cases e
    · rw [z, I.free] at hc; cases hc
theorem bools_of : ∀ {bs : List Bool} {us : List Value}, Vals (bs.map V.bl) us → LSm.BoolsAre us bs
  | [], us, r => by cases r; exact .nil
  | b :: bs, us, r => by
    cases r with
    | cons x y =>
      cases x
      exact .cons b (bools_of y)
theorem call_all {K : PySem.W.Frag} (hK : X.K = K) (hc : X.calm = true) : CallR X (.builtin "all") (fun xs H Q => ∃ p, ∃ bs : List Bool, xs = [.ref p] ∧ SqL K H p (bs.map V.bl) ∧ Q (.bl (bs.all id)) H) := by
  subst hK
  intro pins s σ H xs us Q I r h
  obtain ⟨p, bs, rfl, hq, q⟩ := h
  obtain ⟨u, rfl, rx⟩ := vals1 r
  cases rx
  obtain ⟨its, r', pl, hz⟩ := I.list hq
  obtain ⟨m, F⟩ := I.fr
  exact LSm.all_bools F (news_all (g := X.base) (h := s.heap)) (I.ok.hd hc) pl.isList (bools_of r') fun h' tk F' N' => ⟨.bl _, H, I.keptAll F F' N', rfl, q⟩
end
end L2
namespace Sm
open PySem L2 SmSort
end Sm
set_option Elab.async false
set_option linter.all false
set_option maxRecDepth 100000
set_option maxHeartbeats 4000000
namespace Sm
open PySem L2 SmSort
theorem Tups.setD {l : Addr} {H : Hp} {kvs : List (Key × V)} {o : HO} (h : H l = some (.dK kvs)) : Tups H (upd H l o) := fun b u e => by rw [upd_ne (ne_of e h (by intro z; cases z))]; exact e
end Sm
set_option Elab.async false
set_option linter.all false
set_option maxRecDepth 100000
set_option maxHeartbeats 4000000
namespace Sm
open PySem L2 SmSort
def spOtherAt : Sp := fun vs H Q _ => ∃ b, ∃ k : Nat, ∃ v : Int, ∃ rooms tr tm ps, ∃ m : M4, vs = [.ref b, .int k, .int v] ∧ BookAt H b rooms tr tm ps ∧ (ps.map (·.2))[k]? = some m ∧ Q (.int (if v = m.lo then m.hi else m.lo)) H
def spIsMeetNo : Sp := fun vs H Q _ => ∃ b x t rooms tr tm ps, vs = [.ref b, x] ∧ BookAt H b rooms tr tm ps ∧ tyS H x = some t ∧ Q (.bl (inB 0 ((ps.length : Int) - 1) x)) H
end Sm
set_option Elab.async false
set_option linter.all false
set_option maxRecDepth 100000
set_option maxHeartbeats 4000000
namespace Sm
open PySem L2 SmSort
end Sm
namespace L2
open PySem
theorem iteN {c : Bool} {A : Prop} {D : Ends} {σ : St} {H : Hp} (Pre : St → Hp → Prop) (k : ∀ σ H, Pre σ H → D.nx σ H) (h1 : c = true → (∀ σ H, Pre σ H → D.nx σ H) → A) (h2 : c = false → Pre σ H) : if c = true then A else tNext D σ H := by
  cases c with
  | true => exact h1 rfl k
  | false => exact k _ _ (h2 rfl)
end L2
set_option Elab.async false
set_option linter.all false
set_option maxRecDepth 100000
set_option maxHeartbeats 4000000
namespace Sm
open PySem L2 SmSort
theorem Go.free {p l : Addr} {H H' : Hp} (g : Go p H H') (h : H' l = none) (np : l ≠ p) : H l = none := by
  cases e : H l with
  | none => rfl
  | some u => rw [g.1 l u np e] at h; cases h
theorem Go.put {p l : Addr} {H H' : Hp} {o : HO} (g : Go p H H') (h : H l = none) (np : l ≠ p) : Go p H (upd H' l o) := by
  refine ⟨fun b u nb e => by rw [upd_ne (ne_of_none e h)]; exact g.1 b u nb e, ?_⟩
  obtain ⟨x, y, z, e⟩ := g.2
  exact ⟨x, y, z, by rw [upd_ne np.symm]; exact e⟩
end Sm
set_option Elab.async false
set_option linter.all false
set_option maxRecDepth 100000
set_option maxHeartbeats 400000
namespace Sm
open PySem L2 SmSort
def jstep (row F : Fn) (x : W3) : Fn := if below (row x.g) x.t = true ∧ upto (F x.o) x.t = false then put F x.o (some x.t) else F
def jac (ws : List W3) (row : Fn) : Fn := ws.foldl (jstep row) row
def jrow (ws : List W3) (row : Fn) : Nat → Fn
  | 0 => row
  | k + 1 => jac ws (jrow ws row k)
def rk (ws : List W3) : Option Int → Nat
  | none => ws.length + 1
  | some y => ws.countP fun x => decide (x.t < y)
end Sm
set_option Elab.async false
set_option linter.all false
set_option maxRecDepth 100000
set_option maxHeartbeats 400000
namespace L2
open PySem PySem.Spec PyProof.Rows
open AutoSeq1 (wpAny_loadPart')
section
variable {X : Cx}
end
end L2
namespace Sm
open PySem L2 SmSort
end Sm
namespace Sm
open PySem L2 SmSort
theorem atI_ex {xs : List V} {i : Int} (h0 : 0 ≤ i) (h1 : i < xs.length) : ∃ v, atI xs i = some v ∧ v ∈ xs := by
  obtain ⟨k, rfl⟩ := Int.eq_ofNat_of_zero_le h0
  have hk : k < xs.length := by omega
  exact ⟨xs[k], atI_nat (List.getElem?_eq_getElem hk), List.getElem_mem hk⟩
end Sm
namespace L2
open PySem
end L2
namespace Sm
open PySem L2
end Sm
set_option Elab.async false
set_option linter.all false
set_option maxRecDepth 100000
set_option maxHeartbeats 400000
namespace Sm
open PySem L2 SmSort
structure Rows (H0 H : Hp) (ms : List M4) (n k : Nat) (x : Int) (as : List Addr) : Prop where
  pos : as ≠ []
  few : as.length ≤ 200000
  at' : ∀ (i : Nat) (a : Addr), as[i]? = some a → H0 a = none ∧ H a = some (.lst ((rep n (jrow (ways2 ms) (lone k x) i)).map oV))
  ne : ∀ i, i + 1 < as.length → rep n (jrow (ways2 ms) (lone k x) (i + 1)) ≠ rep n (jrow (ways2 ms) (lone k x) i)
  last : rep n (jrow (ways2 ms) (lone k x) as.length) = rep n (jrow (ways2 ms) (lone k x) (as.length - 1))
end Sm
namespace L2
open PySem PySem.Spec PyProof.Rows
section
variable {K : PySem.W.Frag} {a : Addr} {xs : List V} {n : Nat} {caps : List Nat} {g : TG} {tc : TT} {te : TE} {σ : St} {H : Hp} {Qf : Addr → Hp → List V → Prop}
end
end L2
namespace Sm
open PySem L2 SmSort
end Sm
namespace Sm
open PySem L2 SmSort
end Sm
namespace Sm
open PySem L2
end Sm
set_option Elab.async false
set_option linter.all false
set_option maxRecDepth 100000
set_option maxHeartbeats 400000
namespace Sm
open PySem L2 SmSort
def again (ms : List M4) (day first : Int) : Nat → List M4
  | 0 => []
  | r + 1 => again ms day first r ++ ms.map (M4.late ((first + r) * day))
end Sm
set_option Elab.async false
set_option linter.all false
set_option maxRecDepth 100000
set_option maxHeartbeats 400000
namespace L2
open PySem PySem.Spec PyProof.Rows
section
variable {X : Cx} {pins : List (Addr × Obj)} {σ : St} {H : Hp} {s : Shared}
theorem vals_at {xs : List V} {us : List Value} (r : Vals xs us) {j : Nat} (h : j < us.toArray.size) : ∃ x, xs[j]? = some x ∧ RelV x us.toArray[j] := by
  have hl := r.length
  simp only [List.size_toArray] at h
  have a1 : j < xs.length := by omega
  obtain ⟨u, eu, ru⟩ := r.get (i := j) (x := xs[j]) (by simp [a1])
  have e1 : us.toArray[j] = u := by rw [List.getElem_toArray]; exact Option.some.inj ((List.getElem?_eq_getElem h).symm.trans eu)
  exact ⟨xs[j], by simp [a1], by rw [e1]; exact ru⟩
end
end L2
set_option Elab.async false
set_option linter.all false
set_option maxRecDepth 100000
set_option maxHeartbeats 400000
namespace L2
open PySem PySem.Spec PyProof.Rows
def Eqv (K : PySem.W.Frag) (H : Hp) : Nat → V → V → Bool → Prop
  | 0, x, y, b => (x = y ∧ (∃ a, x = .ref a) ∧ b = true) ∨ (flatV x = true ∧ flatV y = true ∧ b = eqV x y)
  | n + 1, x, y, b => (x = y ∧ (∃ a, x = .ref a) ∧ b = true) ∨ (flatV x = true ∧ flatV y = true ∧ b = eqV x y) ∨ ∃ (a c : Addr) (xs ys : List V) (e : Nat → Bool), x = .ref a ∧ y = .ref c ∧ ((SqL K H a xs ∧ SqL K H c ys) ∨ (SqT K H a xs ∧ SqT K H c ys)) ∧ (a = c → b = true) ∧ b = (decide (xs.length = ys.length) && (List.range xs.length).all e) ∧ ∀ (i : Nat) (x y : V), xs[i]? = some x → ys[i]? = some y → Eqv K H n x y (e i)
section
variable {X : Cx} {pins : List (Addr × Obj)} {σ : St} {H : Hp} {s : Shared}
theorem eqv_eq (I : Inv X pins σ H s) : ∀ (n : Nat) {A : Around} {x y : V} {b : Bool} {u v : Value}, A.units + n < cLine → Eqv X.K H n x y b → RelV x u → RelV y v → SeqAt.EqAt A s u v b
  | n, A, x, y, b, u, v, hu, h, ru, rv => by
    have base1 : x = y ∧ (∃ a, x = .ref a) ∧ b = true → SeqAt.EqAt A s u v b := by
      rintro ⟨rfl, ⟨a, rfl⟩, rfl⟩
      cases ru; cases rv
      exact SeqAt.EqAt.same _
    have base2 : flatV x = true ∧ flatV y = true ∧ b = eqV x y → SeqAt.EqAt A s u v b := by
      rintro ⟨h1, h2, rfl⟩
      exact eqAt_V (A := A) (s := s) ru rv h1 h2
    cases n with
    | zero => exact h.elim base1 base2
    | succ n =>
      rcases h with h | h | ⟨a, c, xs, ys, e, rfl, rfl, h, hs, hb, hi⟩
      · exact base1 h
      · exact base2 h
      · cases ru; cases rv
        by_cases ne : a = c
        · rw [hs ne, ne]; exact SeqAt.EqAt.same _
        refine SeqAt.EqAt.of_refs ne ?_
        rcases h with ⟨h1, h2⟩ | ⟨h1, h2⟩
        · obtain ⟨its, r1, p1, _⟩ := I.list h1
          obtain ⟨its2, r2, p2, _⟩ := I.list h2
          have l1 := r1.length
          have l2 := r2.length
          by_cases hl : xs.length = ys.length
          · have := SeqAt.RcAt.lists (A := A) (e := e) p1.isList p2.isList (by simp; omega) (by omega) fun j h1 h2 => by
              obtain ⟨x, ex, rx⟩ := vals_at r1 h1
              obtain ⟨y, ey, ry⟩ := vals_at r2 h2
              exact eqv_eq I n (by show A.units + 1 + n < cLine; omega) (hi j x y ex ey) rx ry
            rw [hb, decide_eq_true hl, Bool.true_and, l1]
            simpa using this
          · rw [hb, decide_eq_false hl, Bool.false_and]
            exact SeqAt.RcAt.lists_lengths (A := A) p1.isList p2.isList (by simp; omega) (by omega)
        · obtain ⟨its, r1, p1, _⟩ := I.tuple h1
          obtain ⟨its2, r2, p2, _⟩ := I.tuple h2
          have l1 := r1.length
          have l2 := r2.length
          have := SeqAt.RcAt.tuples (A := A) (e := e) p1 p2 (by omega) fun j h1 h2 => by
            obtain ⟨x, ex, rx⟩ := vals_at r1 h1
            obtain ⟨y, ey, ry⟩ := vals_at r2 h2
            exact eqv_eq I n (by show A.units + 1 + n < cLine; omega) (hi j x y ex ey) rx ry
          by_cases hl : xs.length = ys.length
          · rw [hb, decide_eq_true hl, Bool.true_and, l1]
            have e1 : its2.length = its.length := by omega
            simpa [e1] using this
          · rw [hb, decide_eq_false hl, Bool.false_and]
            have e1 : ¬ its.length = its2.length := by omega
            have e2 : (its.toArray.size == its2.toArray.size) = false := by simp [e1]
            rw [e2, Bool.and_false] at this
            exact this
def rEqv (K : PySem.W.Frag) (neg : Bool) : R2 := fun x y H Q => ∃ (n : Nat) (a c : Addr) (xs ys : List V) (e : Nat → Bool) (b : Bool), n ≤ 20 ∧ x = .ref a ∧ y = .ref c ∧ ((SqL K H a xs ∧ SqL K H c ys) ∨ (SqT K H a xs ∧ SqT K H c ys)) ∧ b = (decide (xs.length = ys.length) && (List.range xs.length).all e) ∧ (∀ (i : Nat) (x y : V), xs[i]? = some x → ys[i]? = some y → Eqv K H n x y (e i)) ∧ Q (.bl (if neg then !b else b)) H
theorem op_neE (hu : X.A.units + 64 < cLine) : OpR X (compareOp .NotEq) (rEqv X.K true) := by
  intro pins s σ H x y v u Q I rx ry h
  obtain ⟨n, a, c, xs, ys, e, b, hn, rfl, rfl, h, hb, hi, q⟩ := h
  cases rx; cases ry
  rw [if_pos rfl, hb] at q
  rcases h with ⟨h1, h2⟩ | ⟨h1, h2⟩
  · obtain ⟨its, r1, p1, _⟩ := I.list h1
    obtain ⟨its2, r2, p2, _⟩ := I.list h2
    have l1 := r1.length
    have l2 := r2.length
    by_cases hl : xs.length = ys.length
    · rw [decide_eq_true hl, Bool.true_and, l1] at q
      exact SeqAt.RcNeAt.lists (e := e) p1.isList p2.isList (by simp; omega) (by omega) (fun j h1 h2 => by
        obtain ⟨x, ex, rx⟩ := vals_at r1 h1
        obtain ⟨y, ey, ry⟩ := vals_at r2 h2
        exact eqv_eq I n (by show X.A.units + 1 + n < cLine; omega) (hi j x y ex ey) rx ry) _ _ _ _ ⟨.bl _, H, I, rfl, by simpa using q⟩
    · rw [decide_eq_false hl, Bool.false_and] at q
      exact SeqAt.RcNeAt.lists_lengths p1.isList p2.isList (by simp; omega) (by omega) _ _ _ _ ⟨.bl _, H, I, rfl, q⟩
  · obtain ⟨its, r1, p1, _⟩ := I.tuple h1
    obtain ⟨its2, r2, p2, _⟩ := I.tuple h2
    have l1 := r1.length
    have l2 := r2.length
    have key : ((List.range (min its.toArray.size its2.toArray.size)).all e && its.toArray.size == its2.toArray.size) = (decide (xs.length = ys.length) && (List.range xs.length).all e) := by
      by_cases hl : xs.length = ys.length
      · have e1 : its2.length = its.length := by omega
        rw [decide_eq_true hl, Bool.true_and, l1]; simp [e1]
      · have e1 : ¬ its.length = its2.length := by omega
        rw [decide_eq_false hl, Bool.false_and]; simp [e1]
    rw [← key] at q
    exact SeqAt.RcNeAt.tuples (e := e) p1 p2 (by omega) (fun j h1 h2 => by
      obtain ⟨x, ex, rx⟩ := vals_at r1 h1
      obtain ⟨y, ey, ry⟩ := vals_at r2 h2
      exact eqv_eq I n (by show X.A.units + 1 + n < cLine; omega) (hi j x y ex ey) rx ry) _ _ _ _ ⟨.bl _, H, I, rfl, q⟩
end
theorem eqV_int (x y : Int) : eqV (.int x) (.int y) = decide (x = y) := rfl
end L2
set_option Elab.async false
set_option linter.all false
set_option maxRecDepth 100000
set_option maxHeartbeats 4000000
namespace Sm
open PySem L2 SmSort
theorem ahead {n : Nat} {ms : List M4} {m : M4} (g : Good n (ms ++ [m])) {v : Nat} {x y : Int} {i : Nat} (hi : i ≠ v) (h : fwd ms (lone v x) i = some y) : y ≤ m.t ∧ ((i = m.lo.toNat ∨ i = m.hi.toNat) → y < m.t) := by
  obtain ⟨a, ha, ao, at', _⟩ := run_from (ws := ways2 ms) h (by simp [lone, hi])
  unfold ways2 at ha
  obtain ⟨c, hc, hx⟩ := List.mem_flatMap.mp ha
  have od := (List.pairwise_append.mp g.order).2.2 c hc m (by simp)
  obtain ⟨c1, c2, c3, _⟩ := g.each c (by simp [hc])
  obtain ⟨m1, m2, m3, _⟩ := g.each m (by simp)
  unfold two at hx
  simp only [List.mem_cons, List.not_mem_nil, or_false] at hx
  have ct : c.t = y := by rcases hx with rfl | rfl <;> exact at'
  have ci : i = c.lo.toNat ∨ i = c.hi.toNat := by
    rcases hx with rfl | rfl
    · exact .inr ao.symm
    · exact .inl ao.symm
  refine ⟨by rcases od with h | h <;> omega, fun hm => ?_⟩
  rcases od with h | ⟨h1, h2, h3, h4, h5, h6⟩
  · omega
  · exfalso
    rcases ci with e | e <;> rcases hm with e' | e' <;> omega
end Sm
set_option Elab.async false
set_option linter.all false
namespace Sm
open PySem L2 SmSort
theorem iteO {c : Bool} {A B : Prop} {D : Ends} {σ : St} {H : Hp} (Pre : St → Hp → Prop) (k : ∀ σ H, Pre σ H → D.nx σ H) (h1 : c = true → (∀ σ H, Pre σ H → D.nx σ H) → A) (h2 : c = false → (∀ σ H, Pre σ H → D.nx σ H) → B) : if c = true then (if true = true then A else tNext D σ H) else B := by
  cases c with
  | true => exact h1 rfl k
  | false => exact h2 rfl k
theorem iteA {c : Bool} {T2 A : Prop} {D : Ends} {σ : St} {H : Hp} (Pre : St → Hp → Prop) (k : ∀ σ H, Pre σ H → D.nx σ H) (h1 : c = true → (∀ σ H, Pre σ H → D.nx σ H) → T2) (h2 : c = false → Pre σ H) : if c = true then T2 else (if false = true then A else tNext D σ H) := by
  cases c with
  | true => exact h1 rfl k
  | false => exact k _ _ (h2 rfl)
end Sm
set_option Elab.async false
set_option linter.all false
set_option maxRecDepth 100000
set_option maxHeartbeats 400000
namespace SmSet
open PySem
def adv (m : Nat) (p : SetTable.Probe) : SetTable.Probe :=
  if p.more > 0 then { p with j := p.j + 1, more := p.more - 1 } else
  { p with j := (SetTable.leap m p.i p.perturb).1, more := SetTable.runEnd m (SetTable.leap m p.i p.perturb).1 - (SetTable.leap m p.i p.perturb).1, i := (SetTable.leap m p.i p.perturb).1, perturb := (SetTable.leap m p.i p.perturb).2 }
def run (m i u : Nat) : SetTable.Probe := { j := i, more := SetTable.runEnd m i - i, i, perturb := u, dummy := none }
def start (m : Nat) (h : Int) : SetTable.Probe := run m (SetTable.bits h % (m + 1)) (SetTable.bits h)
def ad (m : Nat) : Nat → SetTable.Probe → SetTable.Probe
  | 0, p => p
  | n + 1, p => ad m n (adv m p)
def at' (m : Nat) (h : Int) (n : Nat) : Nat := (ad m n (start m h)).j
def runs (m : Nat) : Nat → Nat → Nat → Nat × Nat
  | 0, i, u => (i, u)
  | r + 1, i, u => runs m r ((i * 5 + 1 + u / 32) % (m + 1)) (u / 32)
theorem runs_add {m : Nat} : ∀ (a b i u : Nat), runs m (a + b) i u = runs m b (runs m a i u).1 (runs m a i u).2
  | 0, b, i, u => by rw [Nat.zero_add]; rfl
  | a + 1, b, i, u => by rw [Nat.succ_add]; exact runs_add a b _ _
theorem runs_perturb {m : Nat} : ∀ (r i u : Nat), (runs m r i u).2 = u / 32 ^ r
  | 0, i, u => by simp [runs]
  | r + 1, i, u => by
    show (runs m r _ (u / 32)).2 = _
    rw [runs_perturb r, Nat.div_div_eq_div_mul, Nat.pow_succ, Nat.mul_comm]
theorem runs_small {m : Nat} : ∀ (r i u : Nat), i ≤ m → (runs m r i u).1 ≤ m
  | 0, i, u, h => h
  | r + 1, i, u, h => runs_small r _ _ (Nat.lt_succ_iff.mp (Nat.mod_lt _ (by omega)))
def f5 (m : Nat) : Nat → Nat → Nat
  | 0, i => i
  | s + 1, i => f5 m s ((i * 5 + 1) % (m + 1))
theorem runs_f5 {m : Nat} : ∀ (s i : Nat), (runs m s i 0).1 = f5 m s i
  | 0, i => rfl
  | s + 1, i => by
    show (runs m s ((i * 5 + 1 + 0 / 32) % (m + 1)) (0 / 32)).1 = f5 m s ((i * 5 + 1) % (m + 1))
    rw [Nat.zero_div, Nat.add_zero]
    exact runs_f5 s _
theorem f5_add {m : Nat} : ∀ (a b i : Nat), f5 m (a + b) i = f5 m b (f5 m a i)
  | 0, b, i => by rw [Nat.zero_add]; rfl
  | a + 1, b, i => by rw [Nat.succ_add]; exact f5_add a b _
def bitsOf (m : Nat) : Nat → Nat → Nat → Nat
  | 0, _, acc => acc
  | s + 1, i, acc => bitsOf m s ((i * 5 + 1) % (m + 1)) (acc ||| (2 ^ i))
theorem bitsOf_spec {m j : Nat} : ∀ (s i acc : Nat), (bitsOf m s i acc).testBit j = true → acc.testBit j = true ∨ ∃ a, a < s ∧ f5 m a i = j
  | 0, i, acc, h => .inl h
  | s + 1, i, acc, h => by
    rcases bitsOf_spec s _ _ h with h | ⟨a, ha, e⟩
    · rw [Nat.testBit_or, Bool.or_eq_true] at h
      rcases h with h | h
      · exact .inl h
      · rw [Nat.testBit_two_pow] at h
        exact .inr ⟨0, by omega, of_decide_eq_true h⟩
    · exact .inr ⟨a + 1, by omega, e⟩
def Mask (m : Nat) : Prop := m = 7 ∨ m = 31 ∨ m = 127 ∨ m = 511 ∨ m = 2047 ∨ m = 8191
theorem cover0 {m : Nat} (hm : Mask m) : f5 m (m + 1) 0 = 0 ∧ ∀ j, j ≤ m → ∃ a, a ≤ m ∧ f5 m a 0 = j := by
  have key : f5 m (m + 1) 0 = 0 ∧ bitsOf m (m + 1) 0 0 = 2 ^ (m + 1) - 1 := by
    rcases hm with rfl | rfl | rfl | rfl | rfl | rfl <;> constructor <;> decide +kernel
  refine ⟨key.1, fun j hj => ?_⟩
  have : (bitsOf m (m + 1) 0 0).testBit j = true := by
    rw [key.2, Nat.testBit_two_pow_sub_one]
    exact decide_eq_true (by omega)
  rcases bitsOf_spec _ _ _ this with h | ⟨a, ha, e⟩
  · simp at h
  · exact ⟨a, by omega, e⟩
theorem cover {m i j : Nat} (hm : Mask m) (hi : i ≤ m) (hj : j ≤ m) : ∃ s, s ≤ m ∧ f5 m s i = j := by
  obtain ⟨z, all⟩ := cover0 hm
  obtain ⟨a, ha, rfl⟩ := all i hi
  obtain ⟨b, hb, rfl⟩ := all j hj
  by_cases c : a ≤ b
  · exact ⟨b - a, by omega, by rw [← f5_add]; congr 1; omega⟩
  · refine ⟨b + (m + 1) - a, by omega, ?_⟩
    rw [← f5_add, show a + (b + (m + 1) - a) = (m + 1) + b from by omega, f5_add, z]
theorem reach {m i u j : Nat} (hm : Mask m) (hi : i ≤ m) (hu : u < 2 ^ 64) (hj : j ≤ m) : ∃ r, r ≤ m + 13 ∧ (runs m r i u).1 = j := by
  have p0 : (runs m 13 i u).2 = 0 := by
    rw [runs_perturb]
    exact Nat.div_eq_of_lt (Nat.lt_of_lt_of_le hu (by decide))
  obtain ⟨s, hs, e⟩ := cover hm (runs_small 13 i u hi) hj
  refine ⟨13 + s, by omega, ?_⟩
  rw [runs_add, p0, runs_f5, e]
theorem least {P : Nat → Prop} : ∀ n, P n → ∃ k, k ≤ n ∧ P k ∧ ∀ i, i < k → ¬ P i := by
  intro n
  induction n using Nat.strongRecOn with
  | _ n ih =>
    intro h
    by_cases c : ∃ i, i < n ∧ P i
    · obtain ⟨i, hi, pi⟩ := c
      obtain ⟨k, hk, pk, al⟩ := ih i hi pi
      exact ⟨k, by omega, pk, al⟩
    · exact ⟨n, Nat.le_refl _, h, fun i hi pi => c ⟨i, hi, pi⟩⟩
end SmSet
set_option Elab.async false
set_option linter.all false
namespace Sm
open PySem L2 SmSort
theorem us1 {fd : FuncData} {ps : List Str} {us : List Value} (h : us.length = 1) (q : ∀ a, bindArgs fd ⟨[a], []⟩ = pure (ps.zip [a])) : bindArgs fd ⟨us, []⟩ = pure (ps.zip us) := match us, h with | [a], _ => q a
theorem us2 {fd : FuncData} {ps : List Str} {us : List Value} (h : us.length = 2) (q : ∀ a b, bindArgs fd ⟨[a, b], []⟩ = pure (ps.zip [a, b])) : bindArgs fd ⟨us, []⟩ = pure (ps.zip us) := match us, h with | [a, b], _ => q a b
theorem us3 {fd : FuncData} {ps : List Str} {us : List Value} (h : us.length = 3) (q : ∀ a b c, bindArgs fd ⟨[a, b, c], []⟩ = pure (ps.zip [a, b, c])) : bindArgs fd ⟨us, []⟩ = pure (ps.zip us) := match us, h with | [a, b, c], _ => q a b c
theorem us4 {fd : FuncData} {ps : List Str} {us : List Value} (h : us.length = 4) (q : ∀ a b c d, bindArgs fd ⟨[a, b, c, d], []⟩ = pure (ps.zip [a, b, c, d])) : bindArgs fd ⟨us, []⟩ = pure (ps.zip us) := match us, h with | [a, b, c, d], _ => q a b c d
end Sm
set_option Elab.async false
set_option linter.all false
set_option maxRecDepth 100000
set_option maxHeartbeats 400000
namespace Sm
open PySem L2 SmSort
def whenOf (ms : List M4) (j : Int) : Int := ((ms[j.toNat]?).map (·.t)).getD 0
def whens (ms : List M4) (k : Nat) : List Int := (numsTo ms k ms.length).map (whenOf ms)
section
variable {n k w : Nat} {ms : List M4} {day : Int}
end
end Sm
set_option Elab.async false
set_option linter.all false
set_option maxRecDepth 100000
set_option maxHeartbeats 400000
namespace Sm
open PySem L2 SmSort
theorem lx2 {a b c d : Int} (h : lx [a, b] [c, d] = false) : c < a ∨ (c = a ∧ d ≤ b) := by
  by_cases e : a = c
  · subst e
    by_cases e2 : b = d
    · subst e2; exact .inr ⟨rfl, Int.le_refl _⟩
    · simp [lx, e2] at h
      exact .inr ⟨rfl, h⟩
  · simp [lx, e] at h
    omega
end Sm
namespace L2
open PySem
end L2
namespace Sm
open PySem L2 SmSort
end Sm
namespace L2
open PySem
end L2
set_option Elab.async false
set_option linter.all false
set_option maxRecDepth 100000
set_option maxHeartbeats 400000
namespace L2
open PySem PySem.Spec PyProof.Rows
section
variable {K : PySem.W.Frag} {a : Addr} {xs : List V} {n : Nat} {caps : List Nat} {g : TG} {tc : TT} {te : TE} {σ : St} {H : Hp} {Qf : Addr → Hp → List V → Prop}
end
end L2
namespace Sm
open PySem L2 SmSort
abbrev Mk := Nat → Nat
end Sm
set_option Elab.async false
set_option linter.all false
set_option maxRecDepth 100000
set_option maxHeartbeats 400000
namespace Sm
open PySem L2 SmSort
structure L4 where
  s : Nat
  w : Nat
  a : Int
  z : Int
end Sm
namespace Sm
open PySem L2 SmSort
end Sm
set_option Elab.async false
set_option linter.all false
set_option maxRecDepth 100000
set_option maxHeartbeats 400000
namespace L2
open PySem PySem.Spec PyProof.Rows
section
variable {P : Program} {w : World} {H H' : Hp} {h : Heap} {a : Addr} {o : HO}
theorem ObjOk.has (x : ObjOk P w H h a o) : ∃ u, h.get? a = some u := by
  cases o with
  | lst xs => obtain ⟨_, _, _, _, e⟩ := x; exact ⟨_, e⟩
  | tup xs => obtain ⟨_, _, _, u, e, _⟩ := x; exact ⟨u, e⟩
  | dK kvs => obtain ⟨_, _, _, _, u, _, _, e, _⟩ := x; exact ⟨u, e⟩
  | dT kvs => obtain ⟨_, _, _, _, u, _, _, e, _⟩ := x; exact ⟨u, e⟩
  | set S n => obtain ⟨u, _, _, _, e, _⟩ := x; exact ⟨u, e⟩
  | ins C dx fs => obtain ⟨_, _, _, e, _⟩ := x; exact ⟨_, e⟩
  | own y => exact x
  | xd fs => obtain ⟨_, ⟨u, _, _, e, _⟩, _⟩ := x; exact ⟨u, e⟩
  | rng lo hi => obtain ⟨_, _, _, e⟩ := x; exact ⟨_, e⟩
  | frz ob u => obtain ⟨e, _⟩ := x; exact ⟨_, e⟩
  | tbl ps => exact ⟨_, (show h.get? a = some _ from x)⟩
  | met f y => exact ⟨_, (show h.get? a = some _ from x)⟩
  | ext φ => exact x.2.1
end
structure XL (P : Program) (w : World) (l : List Env) (H : Hp) (s : Shared) (H' : Hp) (B : Heap) (s' : Shared) : Prop where
  os : s'.os = s.os
  bare : AllBare s'.gens
  keepB : ∀ b o, s.heap.get? b = some o → H b = none → b ∉ frs l → B.get? b = some o
  allB : ∀ b o, s.heap.get? b = some o → b ∉ frs l → ∃ o', B.get? b = some o'
  trkB : ∀ b u, H' b = some u → ∃ o, B.get? b = some o
  frm : ∀ b o, s.heap.get? b = some o → b ∈ frs l → ∃ sl, s'.heap.get? b = some { o with slots := sl }
  free : ∀ b o, s.heap.get? b = some o → H b = none → H' b = none
  tups : ∀ b xs, H b = some (.tup xs) → H' b = some (.tup xs)
  frzs : ∀ b o u, H b = some (.frz o u) → H' b = some (.frz o u)
  tbls : ∀ b ps, H b = some (.tbl ps) → ∃ more, H' b = some (.tbl (ps ++ more))
  hok : HOk P w H' s'.heap
  stays : B.StaysIn s'.heap
section
variable {P : Program} {w : World} {l : List Env} {H H' : Hp} {s s' : Shared} {B base : Heap}
theorem XL.un (x : XL P w l H s H' B s') : Un (frs l) [] H H' s.heap s'.heap where
  keep := fun b o e n hb _ => x.stays _ _ (x.keepB b o e n hb)
  slot := fun b o e n hb _ => x.frm b o e hb
  free := fun b o e n _ => x.free b o e n
  there := fun b o e _ => by
    by_cases hb : b ∈ frs l
    · obtain ⟨sl, q⟩ := x.frm b o e hb; exact ⟨_, q⟩
    · obtain ⟨o', q⟩ := x.allB b o e hb; exact ⟨o', x.stays _ _ q⟩
  tups := x.tups
  frzs := x.frzs
  tbls := x.tbls
theorem XL.step {h2 : Heap} (x : XL P w l H s H' B s') (ff : s.heap.FunFrames base l) (k : B.StaysIn h2) (u : s'.heap.UpToSlots h2) : XL P w l H s H' B { s' with heap := h2 } where
  os := x.os
  bare := x.bare
  keepB := x.keepB
  allB := x.allB
  trkB := x.trkB
  frm := fun b o e hb => by
    obtain ⟨sl, q⟩ := x.frm b o e hb
    obtain ⟨_, o1, e1, nf⟩ := ff.mem hb
    rw [e] at e1; cases e1
    obtain ⟨sl2, q2⟩ := u b _ q nf
    exact ⟨sl2, q2⟩
  free := x.free
  tups := x.tups
  frzs := x.frzs
  tbls := x.tbls
  hok := fun a o e => by
    have st : ∀ b v, H' b = some v → ∀ ob, s'.heap.get? b = some ob → h2.get? b = some ob := fun b v hv ob q => by
      obtain ⟨o1, e1⟩ := x.trkB b v hv
      have z := x.stays _ _ e1
      rw [q] at z; cases z
      exact k _ _ e1
    refine (x.hok a o e).stay (fun b v hb q => ?_) (fun _ q => q) fun _ _ q => q
    rcases hb with rfl | hb
    · exact st _ _ e _ q
    · exact st _ _ hb _ q
  stays := k
end
def TrD (h B : Heap) (e : Addr) (cls fl : Value) : Prop := ∃ oe vs T oT ts, h.get? e = some oe ∧ oe.cls = cls ∧ oe.dict = none ∧ oe.data = .fields vs ∧ vs[1]? = some (Value.ref T) ∧ B.get? T = none ∧ T ≠ e ∧ h.get? T = some oT ∧ oT.data = .fields ts ∧ ts[3]? = some fl
def MdD (h : Heap) (e : Addr) (cls : Value) : Prop := ∃ oe vs, h.get? e = some oe ∧ oe.cls = cls ∧ oe.dict = none ∧ oe.data = .fields vs ∧ vs[1]? = some Value.none
def CXE (P : Program) (w : World) : CXT := fun l H s E e s' => ∃ a cls H' B, e = Value.ref a ∧ XL P w l H s H' B s' ∧ B.get? a = none ∧ s'.heap.FunFrames B l ∧ TrD s'.heap B a cls Value.none ∧ E cls none H'
def FlyS (B : Heap) (env : Env) (outer : List Env) (a : Addr) (cls : Value) (h : Heap) : Prop :=
  B.get? a = none ∧ h.FunFrames B (env :: outer) ∧ (MdD h a cls ∨ TrD h B a cls Value.none ∨ ∃ L, env.frame = some L ∧ TrD h B a cls (rawInt L))
def WX (X : Cx) (E : XK) : Value → Shared → Prop := fun e s' => (X.A.frames = some (X.env :: X.outer) ∧ X.env.frame = some X.env.locals ∧ X.s₀.heap.FunFrames X.base X.outer) ∧ ∃ a cls H' B, e = Value.ref a ∧ XL X.prog X.w X.outer X.H₀ X.s₀ H' B s' ∧ FlyS B X.env X.outer a cls s'.heap ∧ E cls none H'
abbrev Cx.exc (X : Cx) (E : XK) : Cx := X.wish (WX X E)
theorem rec_far {h B : Heap} {T : Addr} {oT : Obj} {ts : Array Value} (hT : h.get? T = some oT) (hdT : oT.data = .fields ts) : ∀ b o, h.get? b = some o → (∀ vs, o.data ≠ .fields vs) → b ≠ T := fun b o e nf z => by
  subst z; rw [hT] at e; cases e; exact nf _ hdT
theorem laid_entry {g B : Heap} {e : Addr} {oe : Obj} {vs ts : Array Value} {fl : Value} (he : g.get? e = some oe) (hdc : oe.dict = none) (hd : oe.data = .fields vs) (sz : 1 < vs.size) (kb : B.StaysIn g) (h3 : ts[3]? = some fl) :
    (∀ b o, b ≠ e → g.get? b = some o → ((g.push { cls := .type "traceback", dict := none, data := .fields ts }).update e (Obj.mapFields (·.setIfInBounds 1 (Value.ref g.objs.size)))).get? b = some o) ∧
    TrD ((g.push { cls := .type "traceback", dict := none, data := .fields ts }).update e (Obj.mapFields (·.setIfInBounds 1 (Value.ref g.objs.size)))) B e oe.cls fl := by
  have he2 := Heap.get?_push_of_some (h := g) { cls := .type "traceback", dict := none, data := .fields ts } he
  have ne : g.objs.size ≠ e := fun z => absurd (Heap.lt_size he) (by rw [z]; exact Nat.lt_irrefl _)
  have hd3 := Obj.data_mapFields hd (·.setIfInBounds 1 (Value.ref g.objs.size))
  refine ⟨fun b o nb eb => ?_, _, _, g.objs.size, { cls := .type "traceback", dict := none, data := .fields ts }, ts, Heap.get?_update_self _ he2 (Obj.isFreed_of_fields hd3), Obj.cls_mapFields _ _, ?_, hd3, by simp [sz], kb.fresh, ne, ?_, rfl, h3⟩
  · rw [Heap.get?_update_other _ _ (Ne.symm nb)]; exact Heap.get?_push_of_some _ eb
  · obtain ⟨c0, d0, dt0, sl0⟩ := oe
    cases dt0 <;> first | exact hdc | cases hd
  · rw [Heap.get?_update_other _ _ (Ne.symm ne)]; exact Heap.get?_push_size g rfl
section
variable {M : Model} {A : Around} {Ex : Value → Shared → Prop} {s : Shared} {B : Heap} {env : Env} {outer : List Env} {a L : Addr} {cls : Value} {Q : Unit → Shared → Prop}
theorem entry_fly {oe : Obj} {vs : Array Value} {head : Value} {hn : Bool} (hfr : A.frames = some (env :: outer)) (hf : env.frame = some L) (hk : B.StaysIn s.heap) (hl : s.heap.FunFrames B (env :: outer)) (nb : B.get? a = none) (he : s.heap.get? a = some oe) (hdc : oe.dict = none) (hd : oe.data = .fields vs) (sz : 1 < vs.size)
    (q : ∀ h', B.StaysIn h' → s.heap.UpToSlots h' → h'.FunFrames B (env :: outer) → TrD h' B a oe.cls (rawInt L) → Q () { s with heap := h' }) :
    wpAny M A (do let v ← frameOf env; let pl ← entryPlaceOf L hn; let b ← EntryCells.newEntry head v .none (rawInt L) .none pl; setField (.ref a) 1 b) Q Ex s := by
  have nf : a ∉ (env :: outer).filterMap (·.frame) := fun hm => by
    obtain ⟨_, o, ho, z⟩ := hl.mem hm
    rw [he] at ho; cases ho; exact z vs hd
  refine wpAny_bind (wpAny_frameOf_fun hfr hl hf fun g sl => wpAny_bind (wpAny_entryPlaceOf fun pl ip => ?_))
  unfold EntryCells.newEntry newFields
  refine wpAny_bind (wpAny_newObj_type ?_ (ip.sizeOk5 _ _ _ _ _))
  have eg : g.get? a = some oe := (sl.2.1 a nf).trans he
  have kg : B.StaysIn g := fun b o e => (sl.2.1 b fun hm => by rw [(hl.mem hm).1] at e; cases e).trans (hk b o e)
  refine wpAny_setField (Heap.get?_push_of_some _ eg) hd sz ?_
  have y := laid_entry (B := B) (fl := rawInt L) (ts := ([head, Value.ref L, Value.none, rawInt L, Value.none] ++ (if pl.isEmpty then List.replicate 6 Value.none else pl)).toArray) eg hdc hd sz kg (by first | (simp; done) | (rcases ip with rfl | ⟨_, _, _, _, _, _, _, rfl⟩ <;> simp))
  have far := rec_far (B := B) he hd
  refine q _ (fun b o e => y.1 b o (fun z => by rw [z, nb] at e; cases e) (kg b o e)) (fun b o e nf => ?_) (hl.of_keeps fun b o e nf => ?_) y.2
  · obtain ⟨s2, e2⟩ := sl.2.2 b o e
    exact ⟨s2, y.1 b _ (far b o e nf) e2⟩
  · obtain ⟨s2, e2⟩ := sl.2.2 b o e
    exact ⟨_, y.1 b _ (far b o e nf) e2, rfl⟩
theorem set_entry {B : Heap} {h : Heap} {cls fl fl2 : Value} {oe oT : Obj} {vs ts : Array Value} {T : Addr} (he : h.get? a = some oe) (hc : oe.cls = cls) (hdc : oe.dict = none) (hd : oe.data = .fields vs) (h1 : vs[1]? = some (Value.ref T)) (hnT : B.get? T = none) (hTe : T ≠ a) (hT : h.get? T = some oT) (hdT : oT.data = .fields ts) (sz : 3 < ts.size) (hk : B.StaysIn h) (hl : h.FunFrames B (env :: outer)) :
    B.StaysIn (h.update T (Obj.mapFields (·.setIfInBounds 3 fl2))) ∧ h.UpToSlots (h.update T (Obj.mapFields (·.setIfInBounds 3 fl2))) ∧ (h.update T (Obj.mapFields (·.setIfInBounds 3 fl2))).FunFrames B (env :: outer) ∧ TrD (h.update T (Obj.mapFields (·.setIfInBounds 3 fl2))) B a cls fl2 ∧ (h.update T (Obj.mapFields (·.setIfInBounds 3 fl2))).get? a = some oe := by
  have far : ∀ b, b ≠ T → (h.update T (Obj.mapFields (·.setIfInBounds 3 fl2))).get? b = h.get? b := fun b hb => Heap.get?_update_other _ _ (Ne.symm hb)
  have nrec := rec_far (B := B) hT hdT
  have ea := (far a (Ne.symm hTe)).trans he
  exact ⟨fun b o e => (far b (fun z => by subst z; rw [hnT] at e; cases e)).trans (hk _ _ e), fun b o e nf => ⟨o.slots, (far b (nrec b o e nf)).trans e⟩, hl.of_keeps fun b o e nf => ⟨o, (far b (nrec b o e nf)).trans e, rfl⟩,
    ⟨oe, vs, T, _, _, ea, hc, hdc, hd, h1, hnT, hTe, Heap.get?_update_self _ hT (Obj.isFreed_of_fields (Obj.data_mapFields hdT _)), Obj.data_mapFields hdT _, by simp [sz]⟩, ea⟩
theorem note_fly (hfr : A.frames = some (env :: outer)) (hf : env.frame = some L) (hk : B.StaysIn s.heap) (x : FlyS B env outer a cls s.heap)
    (q : ∀ h', B.StaysIn h' → s.heap.UpToSlots h' → h'.FunFrames B (env :: outer) → TrD h' B a cls (rawInt L) → Q () { s with heap := h' }) : wpAny M A (noteFrame (.ref a) env) Q Ex s := by
  obtain ⟨hn, hl, ⟨oe, vs, he, hc, hdc, hd, h1⟩ | ⟨oe, vs, T, oT, ts, he, hc, hdc, hd, h1, hnT, hTe, hT, hdT, h3⟩ | ⟨L', hL, ht⟩⟩ := x
  · subst hc
    unfold noteFrame
    rw [hf]
    dsimp only
    refine wpAny_bind (wpAny_field (x := _) he hd h1 ?_)
    rw [if_neg (by decide)]
    exact entry_fly hfr hf hk hl hn he hdc hd (Array.getElem?_eq_some_iff.mp h1).1 q
  · have sz : 3 < ts.size := (Array.getElem?_eq_some_iff.mp h3).1
    obtain ⟨k2, u2, l2, _, e2⟩ := set_entry (fl := Value.none) (fl2 := Value.none) he hc hdc hd h1 hnT hTe hT hdT sz hk hl
    unfold noteFrame
    rw [hf]
    dsimp only
    refine wpAny_bind (wpAny_field (x := _) he hd h1 ?_)
    rw [if_pos (by simp)]
    refine wpAny_bind (wpAny_field (x := _) hT hdT h3 ?_)
    rw [if_neg (by simp [rawInt])]
    refine wpAny_bind (wpAny_setField hT hdT sz ?_)
    subst hc
    exact entry_fly hfr hf k2 l2 hn e2 hdc hd (Array.getElem?_eq_some_iff.mp h1).1 fun h' y1 y2 y3 y4 => q h' y1 (u2.trans y2) y3 y4
  · cases hL.symm.trans hf
    obtain ⟨oe, vs, T, oT, ts, he, hc, hdc, hd, h1, hnT, hTe, hT, hdT, h3⟩ := id ht
    unfold noteFrame
    rw [hf]
    dsimp only
    refine wpAny_bind (wpAny_field (x := _) he hd h1 ?_)
    rw [if_pos (by simp)]
    refine wpAny_bind (wpAny_field (x := _) hT hdT h3 ?_)
    rw [if_pos (by simp)]
    exact wpAny_pure (q s.heap hk (Heap.UpToSlots.refl _) hl ht)
theorem mark_fly {fl : Value} {fo : Option Addr} (hk : B.StaysIn s.heap) (hl : s.heap.FunFrames B (env :: outer)) (ht : TrD s.heap B a cls fl)
    (q : ∀ h', B.StaysIn h' → s.heap.UpToSlots h' → h'.FunFrames B (env :: outer) → TrD h' B a cls (fo.elim Value.none fun f => rawInt f) → Q () { s with heap := h' }) : wpAny M A (setFlight (.ref a) fo) Q Ex s := by
  obtain ⟨oe, vs, T, oT, ts, he, hc, hdc, hd, h1, hnT, hTe, hT, hdT, h3⟩ := ht
  have sz : 3 < ts.size := (Array.getElem?_eq_some_iff.mp h3).1
  obtain ⟨k2, u2, l2, t2, e2⟩ := set_entry (fl := fl) (fl2 := fo.elim Value.none fun f => rawInt f) he hc hdc hd h1 hnT hTe hT hdT sz hk hl
  unfold setFlight
  refine wpAny_bind (wpAny_field (x := _) he hd h1 ?_)
  rw [if_pos (by simp)]
  exact wpAny_setField hT hdT sz (q _ k2 u2 l2 t2)
end
section
variable {X : Cx} {E : XK}
theorem wx_leaves {P : Program} {w : World} {A : Around} {env : Env} {outer : List Env} {H : Hp} {s s' : Shared} {base : Heap} {L : Addr} {e : Value} {Ex : Value → Shared → Prop} (hst : A.frames = some (env :: outer)) (hf : env.frame = some L) (ff : s.heap.FunFrames base outer)
    (h : ∃ a cls H' B, e = Value.ref a ∧ XL P w outer H s H' B s' ∧ FlyS B env outer a cls s'.heap ∧ E cls none H') : wpAny (model P w) A (leaving env e) (fun _ s'' => CXE P w outer H s E e s'') Ex s' := by
  obtain ⟨a, cls, H', B, rfl, x, y, q⟩ := h
  unfold leaving
  refine wpAny_bind (note_fly hst hf x.stays y fun h1 k1 u1 l1 t1 => ?_)
  refine mark_fly k1 l1 t1 fun h2 k2 u2 l2 t2 => ?_
  exact ⟨a, cls, H', B, rfl, (x.step ff k1 u1).step ff k2 u2, y.1, l2.2.2, t2, q⟩
theorem pass_on {E' : XK} (hs : X.stack = X.env :: X.outer) (hf : X.env.frame = some X.env.locals) (hex : X.ex = []) (hE : ∀ cls H', E' cls none H' → E cls none H') : Passes (CXE X.prog X.w) (X.exc E) E' := by
  rintro pins σ H s e s' I0 ⟨a, cls, H', B, rfl, x, f2, f3, f4, q⟩
  have I := I0.unwish
  have nex : ∀ b, b ∉ X.ex := fun b hb => by rw [hex] at hb; cases hb
  have nst : ∀ b o, X.s₀.heap.get? b = some o → b ∉ X.fs → b ∉ frs X.stack := fun b o e nb hb => by
    rcases List.mem_cons.mp (I.stkSub b hb) with z | z
    · subst z; exact absurd (Nat.lt_of_lt_of_le (Heap.lt_size e) I.ok.above) (Nat.lt_irrefl _)
    · exact nb z
  have inst : ∀ b, b ∈ X.fs → b ∈ frs X.stack := fun b hb => by
    rw [hs]; unfold frs; rw [List.filterMap_cons]
    split
    · exact hb
    · exact List.mem_cons_of_mem _ hb
  rw [show (X.exc E).stack = X.env :: X.outer from hs] at f3
  exact ⟨⟨by rw [← hs]; exact I.ok.frames, hf, I.ok.funs⟩, a, cls, H', B, rfl,
    { os := x.os.trans I.os
      bare := x.bare
      keepB := fun b o e n hb => x.keepB b o (I.base.keep b o e n hb (nex b)) (I.base.free b o e n (nex b)) (nst b o e hb)
      allB := fun b o e hb => by
        obtain ⟨o1, e1⟩ := I.base.there b o e (nex b)
        exact x.allB b o1 e1 (nst b o e hb)
      trkB := x.trkB
      frm := fun b o e hb => by
        obtain ⟨sl, e1⟩ := I.base.slot b o e (I.ok.frf b hb) hb (nex b)
        obtain ⟨sl2, e2⟩ := x.frm b _ e1 (inst b hb)
        exact ⟨sl2, e2⟩
      free := fun b o e n => by
        obtain ⟨o1, e1⟩ := I.base.there b o e (nex b)
        exact x.free b o1 e1 (I.base.free b o e n (nex b))
      tups := fun b xs e => x.tups b xs (I.base.tups b xs e)
      frzs := fun b o u e => x.frzs b o u (I.base.frzs b o u e)
      tbls := fun b ps e => by
        obtain ⟨m1, e1⟩ := I.base.tbls b ps e
        obtain ⟨m2, e2⟩ := x.tbls b _ e1
        exact ⟨m1 ++ m2, by rw [e2, Array.append_assoc]⟩
      hok := x.hok
      stays := x.stays }, ⟨f2, f3, .inr (.inl f4)⟩, hE _ _ q⟩
theorem raise_wx {pins : List (Addr × Obj)} {σ : St} {H : Hp} {s : Shared} {h' : Heap} {e : Addr} {cls : Value} {args : List Value} (hs : X.stack = X.env :: X.outer) (hf : X.env.frame = some X.env.locals) (hex : X.ex = []) (I : Inv X pins σ H s) (hx : Heap.MadeExcOf s.heap h' e cls args) (q : E cls none H) : WX X E (.ref e) { s with heap := h' } := by
  have nex : ∀ b, b ∉ X.ex := fun b hb => by rw [hex] at hb; cases hb
  have nst : ∀ b o, X.s₀.heap.get? b = some o → b ∉ X.fs → b ∉ frs X.stack := fun b o e nb hb => by
    rcases List.mem_cons.mp (I.stkSub b hb) with z | z
    · subst z; exact absurd (Nat.lt_of_lt_of_le (Heap.lt_size e) I.ok.above) (Nat.lt_irrefl _)
    · exact nb z
  obtain ⟨t, he, hnt, ht⟩ := hx.there
  have hin : ∀ env ∈ X.stack, ∀ b, env.frame = some b → b ∈ frs X.stack := fun env hm b hb => List.mem_filterMap.mpr ⟨env, hm, hb⟩
  have fr := (PySem.W.funFrames_hide I.stack hin).of_keeps (h' := h') fun b o e _ => ⟨o, hx.keeps b o e, rfl⟩
  rw [hs] at fr
  refine ⟨⟨by rw [← hs]; exact I.ok.frames, hf, I.ok.funs⟩, e, cls, H, PySem.W.hideAll s.heap (frs X.stack), rfl,
    { os := I.os
      bare := I.bare
      keepB := fun b o e n hb => PySem.W.hideAll_get _ (I.base.keep b o e n hb (nex b)) (nst b o e hb)
      allB := fun b o e hb => by
        obtain ⟨o1, e1⟩ := I.base.there b o e (nex b)
        exact ⟨o1, PySem.W.hideAll_get _ e1 (nst b o e hb)⟩
      trkB := fun b u hu => by
        obtain ⟨o1, e1⟩ := (I.hok b u hu).has
        exact ⟨o1, PySem.W.hideAll_get _ e1 fun hb => by rw [I.stkFree b hb] at hu; cases hu⟩
      frm := fun b o e hb => by
        obtain ⟨sl, e1⟩ := I.base.slot b o e (I.ok.frf b hb) hb (nex b)
        exact ⟨sl, hx.keeps _ _ e1⟩
      free := fun b o e n => I.base.free b o e n (nex b)
      tups := I.base.tups
      frzs := I.base.frzs
      tbls := I.base.tbls
      hok := I.hok.kept hx.keeps
      stays := fun b o e => hx.keeps _ _ (PySem.W.of_hideAll _ e) }, ⟨?_, by rw [← hs]; rw [hs]; exact fr, .inl ⟨_, _, he, rfl, rfl, rfl, rfl⟩⟩, q⟩
  cases z : (PySem.W.hideAll s.heap (frs X.stack)).get? e with
  | none => rfl
  | some o => have := PySem.W.of_hideAll _ z; rw [hx.new] at this; cases this
end
end L2
set_option Elab.async false
set_option linter.all false
set_option maxRecDepth 100000
set_option maxHeartbeats 400000
namespace L2
open PySem PySem.Spec PyProof.Rows
abbrev veB : List Value := [.type "ValueError", .type "Exception", .type "BaseException", .type "object"]
def xclsB (K : PySem.W.Frag) (C : Addr) : Bool :=
  PySem.W.excIn K C veB "ValueError.__new__" && (PySem.W.findIn K (.ref C) "__getattribute__" == some (some (.builtin "BaseException.__getattribute__"))) && (PySem.W.findIn K (.ref C) "__getattr__" == some none) &&
  (PySem.W.findIn K (.ref C) "__class__" == some (some (.builtin "object.__class__"))) && (PySem.W.mroIn K C (.type "object") == some true) && (PySem.W.mroIn K C (.type "BaseException") == some true) && (PySem.W.clsIn K C).isSome &&
  (PySem.W.specialIn K (.builtin "object.__class__") "__get__" == some (some (.builtin "getset_descriptor.__get__"))) && (PySem.W.takesIn K (.builtin "object.__class__") == some true)
structure XCls (K : PySem.W.Frag) (C : Addr) : Prop where
  exc : PySem.W.excIn K C veB "ValueError.__new__" = true
  ga : PySem.W.findIn K (.ref C) "__getattribute__" = some (some (.builtin "BaseException.__getattribute__"))
  gn : PySem.W.findIn K (.ref C) "__getattr__" = some none
  cl : PySem.W.findIn K (.ref C) "__class__" = some (some (.builtin "object.__class__"))
  ob : PySem.W.mroIn K C (.type "object") = some true
  bx : PySem.W.mroIn K C (.type "BaseException") = some true
  ic : (PySem.W.clsIn K C).isSome = true
  sp : PySem.W.specialIn K (.builtin "object.__class__") "__get__" = some (some (.builtin "getset_descriptor.__get__"))
  tk : PySem.W.takesIn K (.builtin "object.__class__") = some true
theorem XCls.of {K : PySem.W.Frag} {C : Addr} (h : xclsB K C = true) : XCls K C := by
  simp only [xclsB, Bool.and_eq_true, beq_iff_eq] at h
  obtain ⟨⟨⟨⟨⟨⟨⟨⟨h1, h2⟩, h3⟩, h4⟩, h5⟩, h6⟩, h7⟩, h8⟩, h9⟩ := h
  exact ⟨h1, h2, h3, h4, h5, h6, h7, h8, h9⟩
theorem XCls.find {K : PySem.W.Frag} {C : Addr} (c : XCls K C) : PySem.W.findObj K C none "__class__" = some (.bind (.builtin "getset_descriptor.__get__") (.builtin "object.__class__")) := by
  obtain ⟨cd, e⟩ := Option.isSome_iff_exists.mp c.ic
  unfold PySem.W.findObj
  rw [e, Option.bind_some, c.cl, Option.bind_some]
  simp [c.sp, c.tk]
section
open PySem.W
variable {prog : Program} {w : World} {A : Around} {E : Value → Shared → Prop} {s : Shared} {K : PySem.W.Frag} {x C : Addr} {ox : Obj} {Q : Option Value → Shared → Prop}
theorem exc_class (X : K.In s.heap) (I : PySem.W.InstAt s.heap x ox C none) (c : XCls K C) (h : Q (some (.ref C)) { s with toks := s.toks + 1 }) : wpAny (model prog w) A (getAttr? (.ref x) "__class__") Q E s := by
  obtain ⟨hh, g, d, t, os⟩ := s
  have M0 := I.type (M := model prog w)
  have M1 := looks_findIn (M := model prog w) X c.ga
  have M2 := looks_findIn (M := model prog w) X c.gn
  have M3 := looks_find (M := model prog w) X I c.find
  have M4 := looks_mroIn (M := model prog w) X c.bx
  have ne : (Value.builtin "BaseException.__getattribute__" == Value.builtin "object.__getattribute__") = false := by decide +kernel
  unfold getAttr? getAttrBy? getAttrBy
  refine wpAny_bind (wpAny_mkText (wpAny_bind (wpAny_attempt (wpAny_holding (wpAny_bind (M0.at (wpAny_bind (M1.at ?_))))))))
  dsimp only
  rw [if_neg (by rw [ne, Bool.and_false]; exact Bool.false_ne_true)]
  unfold getAttrByItsOwn hookBefore
  refine wpAny_bind (M2.at (wpAny_bind (wpAny_attempt (wpAny_holding ?_))))
  unfold callGetattribute
  rw [if_neg (by simp [onTheHeap])]
  unfold boundAndCalled
  refine wpAny_bind (wpAny_of_eq (PySem.F.excAttr_ValueError.ga.bind (.ref x)) ?_)
  refine wpAny_call (codeAny_call_builtin PySem.F.excAttr_ValueError.ga.plain PySem.F.entry_bexc_ga ?_)
  have kd : builtinKind "BaseException.__getattribute__" = some .slot := by decide +kernel
  have sp : splitId "BaseException.__getattribute__" = some ("BaseException", "__getattribute__") := by decide +kernel
  have ao := PySem.F.args_bexc_ga (.ref x) (.str "__class__" t)
  have LI : Looks (model prog w) hh (isInstance (.ref x) (.type "BaseException")) true := M0.andThen M4
  simp only [checkBuiltinCall, kd, sp]
  refine wpAny_bind (LI.at ?_)
  rw [if_neg (by decide)]
  refine wpAny_of_eq (a := ()) ao ?_
  unfold Builtin.«object.__getattribute__»
  repeat (first | refine wpAny_bind (M0.at ?_) | refine wpAny_bind (M3.at ?_) | wp_step)
  refine class_get (ox := ox) (od := none) X I c.ob ?_
  exact wpAny_pure (wpAny_pure (wpAny_pure h))
theorem kitx_exc (c : XCls K C) : KitX K (.ref x) (.ref C) (fun h => ∃ ox, PySem.W.InstAt h x ox C none) where
  ty := fun _ _ _ ⟨_, I⟩ => I.type
  it := fun _ _ X _ => by
    have q := c.ic
    unfold clsIn at q
    split at q
    · rename_i lk
      intro A' Q' E' s' kp qq
      unfold isType loadHead
      exact wpAny_bind (wpAny_loadPart (kp _ _ (X _ _ lk)) (wpAny_pure qq))
    · cases q
  ne := fun h tp dd its n sl X ht => by
    have q := c.ic
    unfold clsIn at q
    split at q
    · rename_i lk
      refine Bool.eq_false_iff.mpr fun z => ?_
      obtain rfl : C = tp := Value.ref.inj (beq_iff_eq.mp z)
      cases (X _ _ lk).symm.trans ht
    · cases q
  ca := fun X ⟨_, I⟩ k => exc_class X I c k
end
def excO (x C : Addr) : HO := .ext fun h => ∃ ox, PySem.W.InstAt h x ox C none
def vv : V → Value
  | .ref a => .ref a
  | .ty n => .type n
  | _ => .none
def isCls : V → Bool
  | .ref _ => true
  | .ty _ => true
  | _ => false
theorem vv_of {x : V} {u : Value} (h : isCls x = true) (r : RelV x u) : u = vv x := by
  cases x <;> first | exact r | cases h
theorem vv_all : ∀ {xs : List V} {us : List Value}, xs.all isCls = true → Vals xs us → us = xs.map vv
  | [], _, _, .nil => rfl
  | x :: xs, _, h, .cons r t => by
    rw [List.all_cons, Bool.and_eq_true] at h
    rw [List.map_cons, vv_of h.1 r, vv_all h.2 t]
section
variable {X : Cx} {K : PySem.W.Frag}
theorem Inv.excAt {pins : List (Addr × Obj)} {σ : St} {H : Hp} {s : Shared} {a C : Addr} (I : Inv X pins σ H s) (h : H a = some (excO a C)) : ∃ ox, PySem.W.InstAt s.heap a ox C none := (I.hok a _ h).1
theorem call_isX (hK : X.K = K) : CallR X (.builtin "isinstance") (fun xs H Q => ∃ a C c b, xs = [.ref a, c] ∧ H a = some (excO a C) ∧ XCls K C ∧ isCls c = true ∧ PySem.W.kitOne K (.ref C) (vv c) = some b ∧ Q (.bl b) H) := by
  subst hK
  intro pins s σ H xs us Q I r h
  obtain ⟨a, C, c, b, rfl, ha, xc, hc, hk, q⟩ := h
  obtain ⟨u, w', rfl, r1, r2⟩ := vals2 r
  cases r1
  cases vv_of hc r2
  exact PySem.W.kia_one (kitx_exc xc) I.kIn (I.excAt ha) hk (by intro z; cases z) fun tk => ⟨.bl _, H, I.tok tk, rfl, q⟩
theorem call_isXT (hK : X.K = K) : CallR X (.builtin "isinstance") (fun xs H Q => ∃ a C tp cs b, xs = [.ref a, .ref tp] ∧ H a = some (excO a C) ∧ XCls K C ∧ SqT K H tp cs ∧ cs.all isCls = true ∧ PySem.W.kitAny K (.ref C) (cs.map vv) = some b ∧ Q (.bl b) H) := by
  subst hK
  intro pins s σ H xs us Q I r h
  obtain ⟨a, C, tp, cs, b, rfl, ha, xc, ht, hc, hk, q⟩ := h
  obtain ⟨u, w', rfl, r1, r2⟩ := vals2 r
  cases r1; cases r2
  obtain ⟨its, rv, ⟨o, ho, hoc, n, hod⟩, _⟩ := I.tuple ht
  cases vv_all hc rv
  obtain ⟨ocl, odc, odt, osl⟩ := o
  cases hoc; cases hod
  exact PySem.W.kia_tup (kitx_exc xc) I.kIn (I.excAt ha) ho hk (by intro z; cases z) fun tk => ⟨.bl _, H, I.tok tk, rfl, q⟩
end
theorem exc_of {K : PySem.W.Frag} {h : Heap} {C : Addr} {bmB : List Value} {ni : String} (X : K.In h) (q : PySem.W.excIn K C bmB ni = true) : ∃ bm N nm qn bs hd sn sub ab col dd k0 k1 k2 k3 k5 mN,
    h.get? C = some (excClassObj nm qn C N bs bm hd sn sub ab col dd k0 k1 k2 k3 k5 ni) ∧ h.Ns N mN ∧ mN "__init__" = none ∧ OwnTail h bmB bm := by
  simp only [PySem.W.excIn] at q
  split at q
  case h_2 => cases q
  case h_1 d0 c0 z0 lk =>
    split at q
    case h_2 => cases q
    case h_1 C0 bm p0 p1 p2 p3 n0 p5 em es =>
      simp only [Bool.and_eq_true, beq_iff_eq, Bool.not_eq_true'] at q
      obtain ⟨⟨⟨⟨⟨e1, e2⟩, e3⟩, e4⟩, e5⟩, e6⟩ := q
      subst e1 e2
      have ez : z0 = #[p0, p1, p2, p3, some (.builtin n0), p5] := by rw [← es]
      have kC := X _ _ lk
      rw [ez] at kC
      rcases c0 with ⟨nm, bs, mro, ns, qn, hd, sn, sub, ab, col, del⟩
      have em' : mro = .ref C0 :: bm := em
      have e3' : del = false := e3
      subst em' e3'
      exact ⟨bm, ns, nm, qn, bs, hd, sn, sub, ab, col, d0, p0, p1, p2, p3, p5, _, kC, .of_isNs (PySem.W.isNs_of_in X e5), PySem.W.nsMap_none_of_in X e5 e6, PySem.W.tail_of_in X e4⟩
section
variable {X : Cx} {E : XK}
theorem PS.nox {st : Stmt} {t : TS} (h : PS X.nox st t) : PS X st t := fun pins s σ H D I hw =>
  wpAny_mono (h pins s σ H D (I.wish _) hw) (fun _ _ q => q.unwish) fun _ _ z => False.elim z
def tRaise (E : XK) (C : Addr) : TS := fun _ _ H => E (.ref C) none H
theorem ps_raise {x : Str} {C : Addr} {np cpos pos p1 : Pos} {t : Str} {j} (hs : X.stack = X.env :: X.outer) (hf : X.env.frame = some X.env.locals) (hex : X.ex = []) (hc : X.calm = true) (hg : Gl X x) (hm : X.mg x = some (.ref C)) (xc : XCls X.K C) (hdb : (x == ("__debug__" : Str)) = false := by decide)
    (he : starEach [Expr.Constant (.str t) j p1] X.env = [(false, eval (.Constant (.str t) j p1) X.env)] := by rfl) :
    PS (X.exc E) (.Raise (some (.Call (.Name x np) [.Constant (.str t) j p1] [] cpos)) none pos) (tRaise E C) := by
  intro pins s σ H D I0 h
  have I := I0.unwish
  obtain ⟨bm, N, nm, qn, bs, hd, sn, sub, ab, col, dd, k0, k1, k2, k3, k5, mN, kC, kN, kn, kt⟩ := exc_of I.kIn xc.exc
  refine wpAny_Raise_call_subT (env := X.env) (C := C) (nm := nm) (q := qn) (N := N) (bs := bs) (bm := bm) (hdct := hd) (sn := sn) (sub := sub) (ab := ab) (col := col) (dd := dd) (k0 := k0) (k1 := k1) (k2 := k2) (k3 := k3) (k5 := k5)
    PySem.F.excBase_ValueError (mN := mN) (kt.hasType PySem.F.excBase_ValueError.hasBase) (I.ok.hd hc) (by rw [he]; rfl) kn (ld_glob I0 hg hm ⟨rfl, ?_⟩ hdb)
  rw [he]
  refine Calls.evalArgs_plain (Calls.spliced_cons (Calls.Constant_str (pos := p1) (k := j) (Calls.spliced_nil ?_)))
  refine ⟨rfl, by show 1 ≤ sizeLine; decide, kC, kN, kt, fun h' e me => ?_⟩
  exact raise_wx (s := { s with toks := s.toks + 1 }) hs hf hex (I.tok _) me h
end
section
variable {P : Program} {w : World} {K : PySem.W.Frag} {mg : Str → Option Value} {base : Heap}
theorem Fun.okE {x qual : Str} {st : Stmt} {f : Addr} {fd : FuncData} {N ps : List Str} {k : Nat} {sp : Sp} (F : Fun K x qual st f fd) (S : FnScope N ps (defScope st)) (len : ∀ vs H Q E, sp vs H Q E → vs.length = ps.length)
    (hbody : ∀ (cdv : Value) (A : Around) (outer : List Env) (s : Shared) (H : Hp) (vs : List V) (Q : VK) (E : XK), Room k (A.deeper (envOfC qual (defScope st) s.heap.objs.size f cdv)) → sp vs H Q E →
      ∃ t, PSs ((cxOf (CXE P w) P w K mg base N qual (defScope st) f cdv A outer s H E).exc E) (defBody st) t ∧ t { nx := fun _ H' => Q .non H', rt := Q } (start N vs) H) : FnOk P w K mg base (CXE P w) (k + 1) f fd ps sp := by
  obtain ⟨oc, od, kV, doc, pm, an, cdv, ct, osl, rfl, lk, hcd⟩ := F.ex
  refine fn_of lk hcd S len fun A outer s H vs Q E hr hsp => ?_
  obtain ⟨t, h, q⟩ := hbody cdv A outer s H vs Q E hr hsp
  refine ⟨t, fun pins s1 σ H1 D I hw => ?_, q⟩
  exact wpAny_mono (h pins s1 σ H1 D (I.wish _) hw) (fun _ _ z => z.unwish) fun e s2 z => wx_leaves (base := base) I.ok.frames rfl I.ok.funs z.2
end
end L2
set_option Elab.async false
set_option linter.all false
set_option maxRecDepth 100000
set_option maxHeartbeats 400000
namespace L2
open PySem PySem.Spec PyProof.Rows
section
variable {X : Cx} {pins : List (Addr × Obj)} {σ : St} {H : Hp} {s : Shared}
theorem gone_ok {M : Model} {A : Around} {Ex : Value → Shared → Prop} {i : Nat} {x : Str} {pos : Pos} {Q : Unit → Shared → Prop} (I : Inv X pins σ H s) (hN : X.N.Nodup) (hi : X.N[i]? = some x) (hk : X.env.kindOf x = some .local)
    (h : ∀ s', Inv X pins (σ.set i none) H s' → Q () s') : wpAny M A (do bindName X.env x .none; unbindBehindTheSuite X.env x pos) Q Ex s := by
  obtain ⟨m, hn, hl⟩ := id I.loc
  have hcls : (X.env.scope.kind == .class || (X.env.scope.kind == .module && X.env.locals != X.env.globals)) = false := by rw [I.ok.kind]; rfl
  have cne := I.cne
  refine wpAny_nameGoes_keeps hk hn hcls fun h' v hn' hs => ?_
  obtain ⟨oL, _, _, hoL, _⟩ := id hn
  have far : ∀ b o, X.s₀.heap.get? b = some o → b ≠ X.env.locals := fun b o e => Nat.ne_of_lt (Nat.lt_of_lt_of_le (Heap.lt_size e) I.ok.above)
  refine h _ ⟨I.ok, I.os, I.bare, ⟨fun b o e n hb hx => ?_, fun b o e n hb hx => ?_, I.base.free, fun b o e hx => ?_, I.base.tups, I.base.frzs, I.base.tbls⟩, ⟨_, hn', fun j y v' e1 e2 e3 => ?_⟩, fun y c e => ?_, I.free, I.freeC, fun p hp => ?_, fun b ob e => ?_, by simpa using I.len⟩
  · exact (hs.2 b (far b o e)).trans (I.base.keep b o e n hb hx)
  · obtain ⟨sl, e1⟩ := I.base.slot b o e n hb hx
    exact ⟨sl, (hs.2 b (far b o e)).trans e1⟩
  · obtain ⟨o', e1⟩ := I.base.there b o e hx
    exact ⟨o', (hs.2 b (far b o e)).trans e1⟩
  · by_cases hj : j = i
    · subst hj
      have hj' : j < σ.length := by
        by_cases z : j < σ.length
        · exact z
        · rw [List.getElem?_eq_none (by rw [List.length_set]; omega)] at e2; cases e2
      rw [List.getElem?_set_self hj'] at e2; cases e2
    · rw [List.getElem?_set_ne (Ne.symm hj)] at e2
      obtain ⟨u', r', q⟩ := hl j y v' e1 e2 e3
      refine ⟨u', r', ?_⟩
      rcases q with ⟨k, e⟩ | ⟨k, c, e, z⟩
      · refine .inl ⟨k, ?_⟩
        have : y ≠ x := fun e => hj (nodup_ix hN e1 (e ▸ hi))
        simp [this, e]
      · exact .inr ⟨k, c, e, z.sameBut hs (cne y c e)⟩
  · obtain ⟨w', z⟩ := I.cell y c e
    exact ⟨w', z.sameBut hs (cne y c e)⟩
  · obtain ⟨e, n, ne, nf, d⟩ := I.pin p hp
    exact ⟨(hs.2 p.1 ne).trans e, n, ne, nf, d⟩
  · have hfree := I.free
    refine (I.hok b ob e).stay (fun c w' hc q => (hs.2 c ?_).trans q) (fun _ q => q) fun _ _ q => q
    rintro rfl
    rcases hc with rfl | hc
    · rw [hfree] at e; cases e
    · rw [hfree] at hc; cases hc
end
def Cx.hand (X : Cx) (e : Addr) : Cx := { X with A := X.A.mark (some (.ref e)), calm := false, xe := fun _ _ => False }
section
variable {X : Cx} {pins : List (Addr × Obj)} {σ : St} {H : Hp} {s : Shared} {e : Addr}
theorem Inv.hand (I : Inv X pins σ H s) (e : Addr) : Inv (X.hand e) pins σ H s :=
  ⟨⟨I.ok.mod, I.ok.kind, I.ok.glob, I.ok.blt, I.ok.above, I.ok.inj, I.ok.has, I.ok.cab, (fun z => by cases z), I.ok.frames, I.ok.stk, I.ok.exf, I.ok.bs, I.ok.bsz, I.ok.noex, I.ok.exfs, I.ok.funs, I.ok.frf⟩, I.os, I.bare, I.base, I.loc, I.cell, I.free, I.freeC, I.pin, I.hok, I.len⟩
theorem Inv.unhand (ok : X.Ok) (I : Inv (X.hand e) pins σ H s) : Inv X pins σ H s := ⟨ok, I.os, I.bare, I.base, I.loc, I.cell, I.free, I.freeC, I.pin, I.hok, I.len⟩
end
def PSx (X : Cx) (st : List Stmt) (t : XK → TS) : Prop := ∀ (pins : List (Addr × Obj)) (s : Shared) (σ : St) (H : Hp) (D : Ends) (Eh : XK) (Z : Value → Shared → Prop), Inv X pins σ H s → t Eh D σ H →
  (∀ H1 s1 e s', Inv X pins σ H1 s1 → CXE X.prog X.w X.stack H1 s1 Eh e s' → Z e s') → wpAny (model X.prog X.w) X.A (execs st X.env) (SP X pins D) Z s
section
variable {X : Cx} {k : Nat} {f : Addr} {fd : FuncData} {ps : List Str} {sp : Sp} {dvs : List V} {ds : List Value} {x : Str} {p pos cpos : Pos} {e : Expr} {es : List Expr} {t : TA}
theorem run_fnX {pins : List (Addr × Obj)} {σ : St} {H : Hp} {s : Shared} {Q : VK} {us : List Value} {vs : List V} {Eh : XK} {Z : Value → Shared → Prop} (F : FnOk X.prog X.w X.K X.mg X.base (CXE X.prog X.w) k f fd ps sp) (hr : Room k X.A) (hb : Binds X.K fd ps ds) (hd : Vals dvs ds)
    (hx : ∀ e s', CXE X.prog X.w X.stack H s Eh e s' → Z e s') (I : Inv X pins σ H s) (r : Vals vs us) (h : sp (vs ++ dvs) H Q Eh) : wpAny (model X.prog X.w) X.A (call (.ref f) us) (EP X pins σ Q) Z s := by
  have r2 : Vals (vs ++ dvs) (us ++ ds) := r.append hd
  have hl : (us ++ ds).length = ps.length := by rw [← r2.length]; exact F.len _ _ _ _ h
  refine wpAny_call (codeAny_mono (F.run X.A X.stack s H ⟨us, []⟩ (us ++ ds) (vs ++ dvs) Q Eh hr I.env0 (hb s us I.kIn hl) r2 h) fun r s' hq => ?_)
  cases r with
  | error e => exact hx e s' hq
  | ok fl =>
    cases fl with
    | ret u => exact I.after hq
    | next => exact False.elim hq
    | brk => exact False.elim hq
    | cont => exact False.elim hq
end
def tTry (K : PySem.W.Frag) (cy : Value) (i : Nat) (tb : XK → TS) (th : TS) : TS := fun D σ H =>
  tb (fun cls _ H' => PySem.W.exmOne K cls cy = some true ∧ ∃ C, cls = Value.ref C ∧ ∀ x, H' x = none →
    th { nx := fun σ' H2 => D.nx (σ'.set i none) H2, rt := D.rt, bk := fun σ' H2 => D.bk (σ'.set i none) H2, ct := fun σ' H2 => D.ct (σ'.set i none) H2 } (σ.set i (some (.ref x))) (upd H' x (excO x C))) D σ H
section
variable {X : Cx} {K : PySem.W.Frag}
theorem ps_tryAs {body : List Stmt} {tb : XK → TS} {b₀ : Stmt} {suite : List Stmt} {y n : Str} {np hpos pos : Pos} {th : TS} {i : Nat} {cy : Value} (hK : X.K = K) (hb : PSx X body tb) (hs : X.stack = X.env :: X.outer) (hf : X.env.frame = some X.env.locals)
    (hg : Gl X y) (hm : X.mg y = some cy) (hN : X.N.Nodup) (hi : X.N[i]? = some n) (hl : X.env.kindOf n = some .local) (hh : ∀ e, PSs (X.hand e) (b₀ :: suite) th) (hdb : (y == ("__debug__" : Str)) = false := by decide) :
    PS X (.Try body [.ExceptHandler (some (.Name y np)) (some n) (b₀ :: suite) hpos] [] [] pos) (tTry K cy i tb th) := by
  subst hK
  intro pins s σ H D I h
  refine wpAny_Try_except (thn (hb pins s σ H D _ _ I h ?_) fun f s1 q => ?_)
  · intro H1 s1 e s' I1 ⟨a, cls, H', B, ee, x, nb, ff, ht, em, C, ec, q⟩
    subst ee ec
    have fr : X.A.frames = some (X.env :: X.outer) := by rw [← hs]; exact I1.ok.frames
    have ff1 := I1.stack
    rw [hs] at ff
    refine note_fly (cls := .ref C) fr hf x.stays ⟨nb, ff, .inr (.inl ht)⟩ fun h2 k2 u2 l2 t2 => ?_
    refine mark_fly (fo := none) k2 l2 t2 fun h3 k3 u3 l3 t3 => ?_
    have x3 := (x.step ff1 k2 u2).step ff1 k3 u3
    have J3 : Inv X pins σ H' { s' with heap := h3 } := I1.call' (ch := []) x3.os x3.un x3.hok x3.bare (fun b z => absurd z (by simp))
    obtain ⟨oe, vs, T, oT, ts, he, hc, _⟩ := id t3
    refine wpAny_handleBy_cons (codeAny_handlers_test (ld_glob (X := X.hand a) (J3.hand a) hg hm ?_ hdb)) (by intro z; cases z)
    have LT : PySem.W.Looks (model X.prog X.w) h3 (typeOf (.ref a)) (.ref C) := hc ▸ (PySem.W.Looks.ld he).andThen .now
    refine (PySem.W.exm_one J3.kIn LT em).here ?_
    refine codeAny_handlers_suite_as (mark_fly (fo := none) k3 l3 t3 fun h4 k4 u4 l4 t4 => ?_)
    have x4 := x3.step ff1 k4 u4
    obtain ⟨oe4, vs4, T4, oT4, ts4, he4, hc4, hdc4, hd4, _⟩ := id t4
    have na : H' a = none := by
      cases z : H' a with
      | none => rfl
      | some u => obtain ⟨o, eo⟩ := x4.trkB a u z; rw [nb] at eo; cases eo
    have nfr : a ∉ frs X.stack := fun hm => by
      rw [hs] at hm
      obtain ⟨_, o, eo, nf⟩ := l4.mem hm
      rw [he4] at eo; cases eo; exact nf _ hd4
    have un4 : Un (frs X.stack) [] H1 (upd H' a (excO a C)) s1.heap h4 :=
      { keep := x4.un.keep
        slot := x4.un.slot
        free := fun b o e n hx => by
          have nea : b ≠ a := fun z => by
            subst z
            obtain ⟨o', eo⟩ := x4.allB b o e nfr
            rw [nb] at eo; cases eo
          rw [upd_ne nea]; exact x4.un.free b o e n hx
        there := x4.un.there
        tups := fun b xs e => by have e2 := x4.tups b xs e; rw [upd_ne (ne_of_none e2 na)]; exact e2
        frzs := fun b o u e => by have e2 := x4.frzs b o u e; rw [upd_ne (ne_of_none e2 na)]; exact e2
        tbls := fun b ps e => by obtain ⟨m, e2⟩ := x4.tbls b ps e; exact ⟨m, by rw [upd_ne (ne_of_none e2 na)]; exact e2⟩ }
    have hok4 : HOk X.prog X.w (upd H' a (excO a C)) h4 := fun b u e => by
      by_cases z : b = a
      · subst z
        rw [upd_same] at e; cases e
        have mk : ∀ h : Heap, h.get? b = some oe4 → ∃ ox, PySem.W.InstAt h b ox C none := fun h eh => by
          obtain ⟨c0, d0, dt0, sl0⟩ := oe4
          cases hdc4; cases hd4
          exact ⟨_, eh, hc4, rfl, trivial⟩
        refine ⟨mk h4 he4, ⟨_, he4⟩, fun g1 g2 ⟨ox, i1⟩ kk => ⟨ox, kk _ i1.at_, i1.cls, i1.no, ?_⟩⟩
        have := i1.dict
        cases zz : ox.dict with
        | none => trivial
        | some d0 => rw [zz] at this; exact this.elim
      · rw [upd_ne z] at e
        exact (x4.hok b u e).stay (fun _ _ _ q => q) (fun c q => by rw [upd_ne (ne_of_none q na)]; exact q) fun c xs q => by rw [upd_ne (ne_of_none q na)]; exact q
    have J4 : Inv X pins σ (upd H' a (excO a C)) { s' with heap := h4 } := I1.call' (ch := []) x4.os un4 hok4 x4.bare (fun b z => absurd z (by simp))
    refine store_ok (X := X.hand a) (J4.hand a) hN hi (.inl hl) (v := .ref a) rfl (fun s5 I5 => ?_) (.inr hl)
    refine wpAny_mono (hh a pins s5 _ _ _ I5 (q a na)) (fun f s6 z => ?_) fun _ _ z => z.elim
    cases f with
    | next => obtain ⟨σ', H2, I6, q6⟩ := z; exact gone_ok (I6.unhand I.ok) hN hi hl fun s7 I7 => ⟨_, H2, I7, q6⟩
    | brk => obtain ⟨σ', H2, I6, q6⟩ := z; exact gone_ok (I6.unhand I.ok) hN hi hl fun s7 I7 => ⟨_, H2, I7, q6⟩
    | cont => obtain ⟨σ', H2, I6, q6⟩ := z; exact gone_ok (I6.unhand I.ok) hN hi hl fun s7 I7 => ⟨_, H2, I7, q6⟩
    | ret u => obtain ⟨v, σ', H2, I6, r6, q6⟩ := z; exact gone_ok (I6.unhand I.ok) hN hi hl fun s7 I7 => ⟨v, _, H2, I7, r6, q6⟩
  · cases f with
    | next => exact wpAny_execs_nil q
    | brk => exact q
    | cont => exact q
    | ret u => exact q
end
end L2
namespace L2
open PySem PySem.Spec PyProof.Rows
section
variable {X : Cx} {K : PySem.W.Frag} {e o : Expr} {es : List Expr} {to : TE} {t : TA} {T id : String} {name : Str} {apos cpos : Pos} {r : V → List V → Hp → VK → Prop}
end
end L2
set_option Elab.async false
set_option linter.all false
set_option maxRecDepth 100000
set_option maxHeartbeats 400000
namespace Sm
open PySem L2 SmSort
theorem same_two {H : Hp} {x dx : Addr} {o1 o2 : HO} (nx : H x = none) (ndx : H dx = none) (ne : dx ≠ x) : Same H (upd (upd H dx o1) x o2) :=
  (same_new ndx).trans (same_new (by rw [upd_ne (Ne.symm ne)]; exact nx))
theorem same_twice {H : Hp} {x : Addr} {o1 o2 : HO} (h : H x = none) : Same H (upd (upd H x o1) x o2) := fun b u e => by
  rw [upd_ne (ne_of_none e h), upd_ne (ne_of_none e h)]; exact e
end Sm
set_option Elab.async false
set_option linter.all false
set_option maxRecDepth 100000
set_option maxHeartbeats 400000
namespace L2
open PySem PySem.Spec PyProof.Rows
theorem op_inD {X : Cx} (hu : X.A.units + 64 < cLine) : OpR X (compareOp .In) (fun x y H Q => ∃ a o, y = .ref a ∧ DGet H a x o ∧ Q (.bl o.isSome) H) := by
  intro pins s σ H x y v u Q I rx ry h
  obtain ⟨a, o, rfl, g, q⟩ := h
  cases ry
  exact d_in (by omega) I g rx fun s' I' => ⟨.bl _, H, I', rfl, q⟩
theorem op_notInD {X : Cx} (hu : X.A.units + 64 < cLine) : OpR X (compareOp .NotIn) (fun x y H Q => ∃ a o, y = .ref a ∧ DGet H a x o ∧ Q (.bl (!o.isSome)) H) := by
  intro pins s σ H x y v u Q I rx ry h
  obtain ⟨a, o, rfl, g, q⟩ := h
  cases ry
  exact d_notIn (by omega) I g rx fun s' I' => ⟨.bl _, H, I', rfl, q⟩
end L2
namespace Sm
open PySem L2 SmSort
def letRow (x : L4) : List V := [.int (x.s : Int), .int x.a, .int (x.w : Int), .int x.z]
def kvV (kv : List (Int × Int)) : List (Key × V) := kv.map fun p => (Sum.inl p.1, V.int p.2)
structure TripAt (C : Addr) (H : Hp) (x b dx lL lH lA lP lD : Addr) (ls : List (Addr × L4)) (hs : List (Addr × List (Int × Int))) (os : List (Option Int)) (ns : List Int) (r : Int) (ds : List V) : Prop where
  ins : H x = some (.ins C dx [("book", .ref b), ("letters", .ref lL), ("holders", .ref lH), ("arrivals", .ref lA), ("passed", .ref lP), ("reached", .int r), ("deeds", .ref lD)])
  lts : H lL = some (.lst (ls.map fun l => V.ref l.1))
  rows : ∀ l ∈ ls, H l.1 = some (.tup (letRow l.2))
  hol : H lH = some (.lst (hs.map fun h => V.ref h.1))
  hols : ∀ h ∈ hs, H h.1 = some (.dK (kvV h.2))
  arr : H lA = some (.lst (os.map oV))
  pas : H lP = some (.lst (ns.map V.int))
  dee : H lD = some (.lst ds)
theorem TripAt.same {C : Addr} {H H' : Hp} {x b dx lL lH lA lP lD : Addr} {ls : List (Addr × L4)} {hs : List (Addr × List (Int × Int))} {os : List (Option Int)} {ns : List Int} {r : Int} {ds : List V} (t : TripAt C H x b dx lL lH lA lP lD ls hs os ns r ds) (s : Same H H') :
    TripAt C H' x b dx lL lH lA lP lD ls hs os ns r ds := ⟨s _ _ t.ins, s _ _ t.lts, fun l hl => s _ _ (t.rows l hl), s _ _ t.hol, fun h hh => s _ _ (t.hols h hh), s _ _ t.arr, s _ _ t.pas, s _ _ t.dee⟩
def begA (x : L4) : Option Int := if x.s = x.w ∧ x.a ≤ x.z then some x.a else none
def spTakes (C : Addr) : Sp := fun vs H Q _ => ∃ x b dx lL lH lA lP lD ls hs os ns r ds, ∃ n : Nat, ∃ w : Int, ∃ l, vs = [.ref x, .int (n : Int), .int w] ∧ TripAt C H x b dx lL lH lA lP lD ls hs os ns r ds ∧ ls[n]? = some l ∧
  ∀ H', Same H H' → Q (.bl (!(decide (w = l.2.s) || decide (w = l.2.w)))) H'
def noteA (os : List (Option Int)) (n : Nat) (l : L4) (w t : Int) : List (Option Int) := if w = l.w ∧ t ≤ l.z ∧ os[n]? = some none then os.set n (some t) else os
def spNote (C : Addr) : Sp := fun vs H Q _ => ∃ x b dx lL lH lA lP lD ls hs os ns r ds, ∃ n : Nat, ∃ w t : Int, ∃ l, vs = [.ref x, .int (n : Int), .int w, .int t] ∧ TripAt C H x b dx lL lH lA lP lD ls hs os ns r ds ∧ ls[n]? = some l ∧ n < os.length ∧
  ∀ H', But lA H H' → H' lA = some (.lst ((noteA os n l.2 w t).map oV)) → Q .non H'
def spDone (C : Addr) : Sp := fun vs H Q _ => ∃ x b dx lL lH lA lP lD ls hs os ns r ds, vs = [.ref x] ∧ TripAt C H x b dx lL lH lA lP lD ls hs os ns r ds ∧ ∀ l, H l = none → Q (.ref l) (upd H l (.lst ds))
def inBag (w : Int) (l : Option (Addr × L4)) (h : Option (Addr × List (Int × Int))) : Bool := match l, h with
  | some l, some h => (h.2.any fun p => decide (p.1 = w)) && !(decide (w = l.2.s) || decide (w = l.2.w))
  | _, _ => false
def bagTo (w : Int) (ls : List (Addr × L4)) (hs : List (Addr × List (Int × Int))) : Nat → List Int
  | 0 => []
  | i + 1 => bagTo w ls hs i ++ (if inBag w ls[i]? hs[i]? then [(i : Int)] else [])
theorem bagTo_len (w : Int) (ls : List (Addr × L4)) (hs : List (Addr × List (Int × Int))) : ∀ i, (bagTo w ls hs i).length ≤ i
  | 0 => Nat.le_refl _
  | i + 1 => by
    have := bagTo_len w ls hs i
    unfold bagTo
    rw [List.length_append]
    split <;> simp <;> omega
def spBag (C : Addr) : Sp := fun vs H Q _ => ∃ x b dx lL lH lA lP lD ls hs os ns r ds, ∃ w : Int, vs = [.ref x, .int w] ∧ TripAt C H x b dx lL lH lA lP lD ls hs os ns r ds ∧ hs.length ≤ 41 ∧ hs.length = ls.length ∧
  ∀ l H', Same H H' → H l = none → H' l = some (.lst ((bagTo w ls hs hs.length).map V.int)) → Q (.ref l) H'
theorem valV_any {kv : List (Int × Int)} {w : Int} : (valV (kvV kv) (Sum.inl w)).isSome = kv.any fun p => decide (p.1 = w) := by
  unfold valV kvV
  rw [Bool.eq_iff_iff, Option.isSome_map, List.find?_isSome, List.any_eq_true]
  constructor
  · rintro ⟨p, hp, e⟩
    obtain ⟨q, hq, rfl⟩ := List.mem_map.mp hp
    have e1 := of_decide_eq_true e
    exact ⟨q, hq, decide_eq_true (Sum.inl.inj e1)⟩
  · rintro ⟨q, hq, e⟩
    exact ⟨_, List.mem_map.mpr ⟨q, hq, rfl⟩, decide_eq_true (congrArg Sum.inl (of_decide_eq_true e))⟩
theorem same_put {H H' : Hp} {l : Addr} {o : HO} (s : Same H H') (h : H l = none) : Same H (upd H' l o) := fun b u e => by
  rw [upd_ne (ne_of_none e h)]; exact s b u e
theorem Same.but {H H' : Hp} {x : Addr} (s : Same H H') : But x H H' := fun b u _ e => s b u e
def osTo (ls : List (Addr × L4)) (i : Nat) : List (Option Int) := ((ls.take i).map fun l => begA l.2) ++ List.replicate (ls.length - i) none
theorem osTo_0 (ls : List (Addr × L4)) : osTo ls 0 = List.replicate ls.length none := by simp [osTo]
theorem osTo_all (ls : List (Addr × L4)) : osTo ls ls.length = ls.map fun l => begA l.2 := by simp [osTo]
theorem osTo_len {ls : List (Addr × L4)} {i : Nat} (h : i ≤ ls.length) : (osTo ls i).length = ls.length := by simp [osTo]; omega
theorem osTo_step {ls : List (Addr × L4)} {i : Nat} {l : Addr × L4} (h : ls[i]? = some l) : noteA (osTo ls i) i l.2 (l.2.s : Int) l.2.a = osTo ls (i + 1) := by
  have hi : i < ls.length := (List.getElem?_eq_some_iff.mp h).1
  have lt : ((ls.take i).map fun l => begA l.2).length = i := by simp; omega
  obtain ⟨k, ek⟩ : ∃ k, ls.length - i = k + 1 := ⟨ls.length - i - 1, by omega⟩
  have e1 : ls.length - (i + 1) = k := by omega
  have at1 : (osTo ls i)[i]? = some none := by
    unfold osTo
    rw [List.getElem?_append_right (by omega), lt, ek, Nat.sub_self]
    rfl
  have e2 : osTo ls (i + 1) = ((ls.take i).map fun l => begA l.2) ++ begA l.2 :: List.replicate k none := by
    unfold osTo
    rw [take_snoc h, List.map_append, e1, List.append_assoc]
    rfl
  have e3 : osTo ls i = ((ls.take i).map fun l => begA l.2) ++ none :: List.replicate k none := by
    unfold osTo
    rw [ek, List.replicate_succ]
  rw [e2]
  unfold noteA
  rw [at1]
  by_cases c : l.2.s = l.2.w ∧ l.2.a ≤ l.2.z
  · rw [if_pos ⟨by rw [c.1], c.2, rfl⟩, e3, List.set_append_right _ _ (by omega), lt, Nat.sub_self]
    have : begA l.2 = some l.2.a := by unfold begA; rw [if_pos c]
    rw [this]
    rfl
  · rw [if_neg (fun z => c ⟨by have := z.1; omega, z.2.1⟩), e3]
    have : begA l.2 = none := by unfold begA; rw [if_neg c]
    rw [this]
def spLetters : Sp := fun vs H Q _ => ∃ p b rooms tr tm ps, vs = [.ref p, .ref b] ∧ BookAt H b rooms tr tm ps ∧ 1 ≤ rooms.length ∧ rooms.length ≤ 1000 ∧ Good rooms.length (ps.map (·.2)) ∧ Purse H p ∧
  ∀ l (ls : List (Addr × L4)) H', Go p H H' → H' l = some (.lst (ls.map fun x => V.ref x.1)) → (∀ x ∈ ls, H' x.1 = some (.tup (letRow x.2))) → ls.length ≤ 41 → l ≠ p → Q (.ref l) H'
end Sm
set_option Elab.async false
set_option linter.all false
set_option maxRecDepth 100000
set_option maxHeartbeats 400000
namespace L2
open PySem PySem.Spec PyProof.Rows
section
variable {X : Cx} {k : Nat} {f C : Addr} {fd : FuncData} {ps : List Str} {sp : Sp} {dvs : List V} {ds : List Value} {m : Str} {apos pos : Pos} {e o : Expr} {es : List Expr} {ta : TE} {t : TA}
theorem methX {pins : List (Addr × Obj)} {σ : St} {H : Hp} {s : Shared} {Q : VK} {Eh : XK} {Z : Value → Shared → Prop} {pl : Sem Bool} (he : PE X.nox o ta) (c : Cls X.K C) (hm : Meth X.K C m f) (F : FnOk X.prog X.w X.K X.mg X.base (CXE X.prog X.w) k f fd ps sp) (hr : Room k X.A) (hb : Binds X.K fd ps ds) (hd : Vals dvs ds) (ha : PA X.nox (e :: es) t)
    (I : Inv X pins σ H s) (h : tMeth C m sp dvs Eh ta t σ H Q) (hx : ∀ H1 s1 e s', Inv X pins σ H1 s1 → CXE X.prog X.w X.stack H1 s1 Eh e s' → Z e s')
    (hst : starEach (e :: es) X.env = (false, eval e X.env) :: starEach es X.env) (hpl : (backTo pos (starEach es X.env)).any (·.1) = false)
    (ht : eval (.Call (.Attribute o m apos) (e :: es) [] pos) X.env = (do
      let ov ← eval o X.env
      standAt apos.atName
      let (f, first) ← holding [ov] (getMethod ov m pl)
      callWith pos f first (backTo pos (starEach (e :: es) X.env)) (backToKw pos (keywordEach [] X.env)))) :
    wpAny (model X.prog X.w) X.A (eval (.Call (.Attribute o m apos) (e :: es) [] pos) X.env) (EP X pins σ Q) Z s := by
  refine PySem.W.methodCall_KW (pl := pl) (wpAny_mono (he pins s σ H _ (I.wish _) h) (fun u s1 ⟨x, H1, I1, rx, a, dx, fs, ex, ea, l, q⟩ => ?_) fun _ _ z => z.elim) ht
  subst ex
  obtain rfl : u = Value.ref a := rx
  have J1 := I1.unwish
  refine getmeth_ok J1 ea c hm l ?_
  refine PySem.W.callWith_K (first := [.ref a]) (h₀ := X.base) I.ok.mod.kin hm.kp (wpAny_mono (ha pos pins s1 σ H1 _ I1 q) (fun us s2 ⟨vs, H2, I2, r, q2⟩ => ⟨I2.unwish.kIn, ?_⟩) fun _ _ z => z.elim) hst hpl
  exact run_fnX (us := .ref a :: us) (vs := .ref a :: vs) F hr hb hd (fun e s' z => hx H2 s2 e s' I2.unwish z) I2.unwish (.cons rfl r) q2
theorem psx_setMeth {pl : Sem Bool} {pos' yp : Pos} {i : Nat} {y : Str} (he : PE X.nox o ta) (c : Cls X.K C) (hm : Meth X.K C m f) (F : FnOk X.prog X.w X.K X.mg X.base (CXE X.prog X.w) k f fd ps sp) (hr : Room k X.A) (hb : Binds X.K fd ps ds) (hd : Vals dvs ds) (hN : X.N.Nodup) (hi : X.N[i]? = some y) (hy : Loc X.env.scope y) (ha : PA X.nox (e :: es) t)
    (hst : starEach (e :: es) X.env = (false, eval e X.env) :: starEach es X.env := by rfl) (hpl : (backTo pos (starEach es X.env)).any (·.1) = false := by rfl)
    (ht : eval (.Call (.Attribute o m apos) (e :: es) [] pos) X.env = (do
      let ov ← eval o X.env
      standAt apos.atName
      let (f, first) ← holding [ov] (getMethod ov m pl)
      callWith pos f first (backTo pos (starEach (e :: es) X.env)) (backToKw pos (keywordEach [] X.env))) := by rfl)
    (hs : swapsWith (.Call (.Attribute o m apos) (e :: es) [] pos) (some (.Name y yp)) pos'.line X.env = pure false := by rfl) (hf : X.fn y = true ∨ X.env.scope.names.lookup y = some .local := by first | exact .inl rfl | exact .inr rfl | assumption) :
    PSx X [.Assign [.Name y yp] (.Call (.Attribute o m apos) (e :: es) [] pos) pos'] (fun Eh => tAsg (tMeth C m sp dvs Eh ta t) (gName i)) := by
  intro pins s σ H D Eh Z I h hx
  refine wpAny_execs_cons (wpAny_Assign_Name (thn (methX he c hm F hr hb hd ha I h hx hst hpl ht) fun v s1 ⟨z, H1, I1, r1, q1⟩ => ?_) hs)
  exact store_ok I1 hN hi hy r1 (fun s2 I2 => wpAny_execs_nil ⟨_, H1, I2, q1⟩) hf
end
end L2
set_option Elab.async false
set_option linter.all false
set_option maxRecDepth 100000
set_option maxHeartbeats 400000
namespace L2
open PySem PySem.Spec PyProof.Rows
theorem mt_dget {X : Cx} (hu : X.A.units + 64 < cLine) : MtR X "dict.get" (fun x xs H Q => ∃ a y o, x = .ref a ∧ xs = [y] ∧ DGet H a y o ∧ Q (o.getD .non) H) := by
  intro pins s σ H x xs v us Q I rx rs h
  obtain ⟨a, y, o, rfl, rfl, g, q⟩ := h
  cases rx
  obtain ⟨u, rfl, ru⟩ := vals1 rs
  exact d_get1 (by omega) I g ru fun w' s' I' r' => ⟨_, H, I', r', q⟩
end L2
set_option Elab.async false
set_option linter.all false
set_option maxRecDepth 100000
set_option maxHeartbeats 400000
namespace L2
open PySem PySem.Spec PyProof.Rows
section
variable {X : Cx}
def absF (f : V → Bool) (v : Value) : Bool := match absV v with | some x => f x | none => false
theorem absF_of {f : V → Bool} {x : V} {v : Value} (r : RelV x v) : absF f v = f x := by unfold absF; rw [r.abs]
theorem vals_mem : ∀ {xs : List V} {us : List Value}, Vals xs us → ∀ u ∈ us, ∃ x ∈ xs, RelV x u
  | _, _, .nil, u, h => by cases h
  | _, _, .cons r rr, u, h => by
    cases h with
    | head => exact ⟨_, .head _, r⟩
    | tail _ h => obtain ⟨x, hx, rx⟩ := vals_mem rr u h; exact ⟨x, .tail _ hx, rx⟩
theorem countP_abs {f : V → Bool} : ∀ {xs : List V} {us : List Value}, Vals xs us → us.countP (absF f) = xs.countP f
  | _, _, .nil => rfl
  | _, _, .cons r rr => by rw [List.countP_cons, List.countP_cons, countP_abs rr, absF_of r]
def rCount (K : PySem.W.Frag) : V → List V → Hp → VK → Prop := fun x vs H Q => ∃ (n : Nat) (p : Addr) (xs : List V) (y : V) (f : V → Bool), n ≤ 20 ∧ x = .ref p ∧ vs = [y] ∧ SqL K H p xs ∧ (∀ u ∈ xs, Eqv K H n u y (f u)) ∧ Q (.int (xs.countP f : Nat)) H
theorem mt_count {K : PySem.W.Frag} (hK : X.K = K) (hu : X.A.units + 64 < cLine) : MtR X "list.count" (rCount K) := by
  subst hK
  intro pins s σ H x vs v us Q I rx rv h
  obtain ⟨n, p, xs, y, f, hn, rfl, rfl, hq, he, q⟩ := h
  cases rx
  obtain ⟨u, rfl, ru⟩ := rv.one
  obtain ⟨its, r, ⟨o, m, ho, hc, hd, hs⟩, z⟩ := I.list hq
  obtain ⟨cls, dd, data, sl⟩ := o
  dsimp only at hc hd hs
  cases hc; cases hd; cases hs
  refine call_meets PySem.F.slot_list_count ⟨_, ho, rfl⟩ PySem.F.entry_list_count (PySem.F.args_list_count_2 _ _) (SeqAt.list_countAt p its.toArray m _ _ u (absF f)) ⟨ho, fun w hw => ?_, ?_⟩
  · obtain ⟨x0, hx0, r0⟩ := vals_mem r w (by simpa using hw)
    rw [absF_of r0]
    exact eqv_eq I n (A := X.A.in1) (by show X.A.units + 1 + n < cLine; omega) (he x0 hx0) r0 ru
  · rw [show its.toArray.toList = its from rfl, countP_abs r]
    exact ⟨.int _, H, I.tok _, ⟨_, rfl⟩, q⟩
def rIndex (K : PySem.W.Frag) : V → List V → Hp → VK → Prop := fun x vs H Q => ∃ (n : Nat) (p : Addr) (xs : List V) (y : V) (f : V → Bool) (j : Nat) (u : V), n ≤ 20 ∧ x = .ref p ∧ vs = [y] ∧ SqL K H p xs ∧ (∀ u ∈ xs, Eqv K H n u y (f u)) ∧ xs[j]? = some u ∧ f u = true ∧ (∀ m, m < j → ∀ w, xs[m]? = some w → f w = false) ∧ j < 100000 ∧ Q (.int (j : Nat)) H
theorem mt_index {K : PySem.W.Frag} (hK : X.K = K) (hu : X.A.units + 64 < cLine) : MtR X "list.index" (rIndex K) := by
  subst hK
  intro pins s σ H x vs v us Q I rx rv h
  obtain ⟨n, p, xs, y, f, j, u0, hn, rfl, rfl, hq, he, hj, hf, hno, hsm, q⟩ := h
  cases rx
  obtain ⟨u, rfl, ru⟩ := rv.one
  obtain ⟨its, r, ⟨o, m, ho, hc, hd, hs⟩, z⟩ := I.list hq
  obtain ⟨cls, dd, data, sl⟩ := o
  dsimp only at hc hd hs
  cases hc; cases hd; cases hs
  obtain ⟨w0, hw0, rw0⟩ := r.get hj
  have jl : j < its.length := (List.getElem?_eq_some_iff.mp hw0).1
  refine call_meets PySem.F.slot_list_index ⟨_, ho, rfl⟩ PySem.F.entry_list_index (PySem.F.args_list_index_2 _ _) (SeqAt.list_indexAt p its.toArray m _ _ u (absF f) j (by simpa using jl) (by omega) ?_ ?_) ⟨ho, fun w hw => ?_, ?_⟩
  · have e : its.toArray[j]'(by simpa using jl) = w0 := by simpa using (List.getElem?_eq_some_iff.mp hw0).2
    rw [e, absF_of rw0]; exact hf
  · intro k hk kj
    have kl : k < its.length := by simpa using hk
    obtain ⟨xk, hxk, rk⟩ := vals_at r (j := k) (by simpa using kl)
    rw [absF_of rk]
    exact hno k kj xk hxk
  · obtain ⟨x0, hx0, r0⟩ := vals_mem r w (by simpa using hw)
    rw [absF_of r0]
    exact eqv_eq I n (A := X.A.in1) (by show X.A.units + 1 + n < cLine; omega) (he x0 hx0) r0 ru
  · exact ⟨.int _, H, I.tok _, ⟨_, rfl⟩, q⟩
end
end L2
set_option Elab.async false
set_option linter.all false
set_option maxRecDepth 100000
set_option maxHeartbeats 400000
namespace Sm
open PySem L2 SmSort
structure Tr where
  x : Addr
  b : Addr
  dx : Addr
  lL : Addr
  lH : Addr
  lA : Addr
  lP : Addr
  lD : Addr
  ls : List (Addr × L4)
  hs : List (Addr × List (Int × Int))
  os : List (Option Int)
  ns : List Int
  r : Int
  ds : List V
structure TrOk (C : Addr) (H : Hp) (t : Tr) (rooms : List Int) (tr tm : Addr) (ps : List (Addr × M4)) (n0 : Nat) : Prop where
  at_ : TripAt C H t.x t.b t.dx t.lL t.lH t.lA t.lP t.lD t.ls t.hs t.os t.ns t.r t.ds
  bk : BookAt H t.b rooms tr tm ps
  gd : Good rooms.length (ps.map (·.2))
  rm : rooms.length ≤ 12
  lh : t.hs.length = t.ls.length
  lo : t.os.length = t.ls.length
  ln : t.ns.length = ps.length
  few : t.ls.length ≤ 41
  sh : ∀ h ∈ t.hs, h.2.length ≤ n0
  dn : t.ds.length ≤ n0
  nd : t.lL ≠ t.lA ∧ t.lL ≠ t.lP ∧ t.lL ≠ t.lD ∧ t.lH ≠ t.lA ∧ t.lH ≠ t.lP ∧ t.lH ≠ t.lD ∧ t.lA ≠ t.lP ∧ t.lA ≠ t.lD ∧ t.lP ≠ t.lD
  hnd : (t.hs.map (·.1)).Nodup
def Tr.own (t : Tr) (c : Addr) : Prop := c = t.x ∨ c = t.lA ∨ c = t.lP ∨ c = t.lD ∨ c ∈ t.hs.map (·.1)
def Keeps (t : Tr) (H H' : Hp) : Prop := ∀ c u, ¬ t.own c → H c = some u → H' c = some u
theorem Keeps.same {t : Tr} {H H' : Hp} (s : Same H H') : Keeps t H H' := fun c u _ e => s c u e
theorem Keeps.trans {t : Tr} {H H1 H2 : Hp} (a : Keeps t H H1) (b : Keeps t H1 H2) : Keeps t H H2 := fun c u n e => b c u n (a c u n e)
theorem TrOk.same {C : Addr} {H H' : Hp} {t : Tr} {rooms : List Int} {tr tm : Addr} {ps : List (Addr × M4)} {n0 : Nat} (k : TrOk C H t rooms tr tm ps n0) (s : Same H H') : TrOk C H' t rooms tr tm ps n0 :=
  ⟨k.at_.same s, k.bk.same s, k.gd, k.rm, k.lh, k.lo, k.ln, k.few, k.sh, k.dn, k.nd, k.hnd⟩
theorem TrOk.keep {C : Addr} {H H' : Hp} {t : Tr} {rooms : List Int} {tr tm : Addr} {ps : List (Addr × M4)} {n0 : Nat} (k : TrOk C H t rooms tr tm ps n0) (kp : ∀ c u, (t.own c ∨ c = t.lL ∨ c = t.lH ∨ ∃ xs, H c = some (.tup xs)) → H c = some u → H' c = some u) : TrOk C H' t rooms tr tm ps n0 := by
  have tu : Tups H H' := fun c xs e => kp c _ (.inr (.inr (.inr ⟨xs, e⟩))) e
  refine ⟨⟨kp _ _ (.inl (.inl rfl)) k.at_.ins, kp _ _ (.inr (.inl rfl)) k.at_.lts, fun l hl => tu _ _ (k.at_.rows l hl), kp _ _ (.inr (.inr (.inl rfl))) k.at_.hol, fun h hh => kp _ _ (.inl (.inr (.inr (.inr (.inr (List.mem_map.mpr ⟨h, hh, rfl⟩)))))) (k.at_.hols h hh), kp _ _ (.inl (.inr (.inl rfl))) k.at_.arr, kp _ _ (.inl (.inr (.inr (.inl rfl)))) k.at_.pas, kp _ _ (.inl (.inr (.inr (.inr (.inl rfl))))) k.at_.dee⟩, k.bk.tups tu, k.gd, k.rm, k.lh, k.lo, k.ln, k.few, k.sh, k.dn, k.nd, k.hnd⟩
def kvget (kv : List (Int × Int)) (w : Int) : Option Int := (kv.find? fun p => decide (p.1 = w)).map (·.2)
def kvput (kv : List (Int × Int)) (w t : Int) : List (Int × Int) := if (kv.any fun p => decide (p.1 = w)) = true then kv.map (fun p => if p.1 = w then (p.1, t) else p) else kv ++ [(w, t)]
def kvdel (kv : List (Int × Int)) (w : Int) : List (Int × Int) := kv.filter fun p => decide (p.1 ≠ w)
theorem valV_kv {w : Int} : ∀ {kv : List (Int × Int)}, valV (kvV kv) (Sum.inl w) = (kvget kv w).map V.int
  | [] => rfl
  | p :: kv => by
    have ih := valV_kv (w := w) (kv := kv)
    by_cases c : p.1 = w
    · rw [show kvV (p :: kv) = (Sum.inl p.1, V.int p.2) :: kvV kv from rfl, valV_pos (congrArg Sum.inl c)]
      simp [kvget, c]
    · rw [show kvV (p :: kv) = (Sum.inl p.1, V.int p.2) :: kvV kv from rfl, valV_neg (fun z => c (Sum.inl.inj z)), ih]
      simp [kvget, c]
theorem putK_kv {kv : List (Int × Int)} {w t : Int} : putK (kvV kv) (Sum.inl w) (.int t) = kvV (kvput kv w t) := by
  have e : ((kvV kv).any fun p => decide (p.1 = (Sum.inl w : Key))) = kv.any fun p => decide (p.1 = w) := by
    unfold kvV
    rw [List.any_map]
    congr 1
    funext p
    exact decide_eq_decide.mpr ⟨Sum.inl.inj, congrArg Sum.inl⟩
  unfold putK kvput
  rw [e]
  split
  · unfold kvV
    rw [List.map_map, List.map_map]
    refine List.map_congr_left fun p _ => ?_
    by_cases c : p.1 = w
    · simp [c]
    · simp [c]
  · unfold kvV
    rw [List.map_append]; rfl
theorem dropK_kv {kv : List (Int × Int)} {w : Int} : dropK (kvV kv) (Sum.inl w) = kvV (kvdel kv w) := by
  unfold dropK kvV kvdel
  rw [List.filter_map]
  congr 1
  refine List.filter_congr fun p _ => ?_
  exact decide_eq_decide.mpr ⟨fun h z => h (congrArg Sum.inl z), fun h z => h (Sum.inl.inj z)⟩
theorem kvput_len (kv : List (Int × Int)) (w t : Int) : (kvput kv w t).length ≤ kv.length + 1 := by
  unfold kvput
  split
  · rw [List.length_map]; omega
  · rw [List.length_append]; exact Nat.le_refl _
theorem kvdel_len (kv : List (Int × Int)) (w : Int) : (kvdel kv w).length ≤ kv.length := List.length_filter_le _ _
structure XC where
  deed : Addr
  meet : Addr
  lett : Addr
  walk : Addr
  there : Addr
  has : Addr
  pass : Addr
  room : Addr
def XC.of (X : XC) : Nat → Addr
  | 0 => X.deed
  | 1 => X.meet
  | 2 => X.lett
  | 3 => X.walk
  | 4 => X.there
  | 5 => X.has
  | 6 => X.pass
  | _ => X.room
def takB (L : L4) (o : Int) : Bool := !(decide (o = L.s) || decide (o = L.w))
def othI (M : M4) (g : Int) : Int := if g = M.lo then M.hi else M.lo
def codeP2 (rooms : List Int) (M : M4) (L : L4) (kv : List (Int × Int)) (n : Int) (bag : Nat) (g : Int) : Nat :=
  if g = M.lo ∨ g = M.hi then
    if below (kvget kv g) M.t = true then
      if (kvget kv (othI M g)).isSome = true then 5
      else if M.m ≤ n then 6
      else if (takB L (othI M g) && decide ((rooms[(othI M g).toNat]?.getD 0) ≤ (bag : Int))) = true then 7
      else 8
    else 4
  else 3
def codeP (rooms : List Int) (ms : List M4) (t : Tr) (m l g : Int) : Nat :=
  if 0 ≤ m ∧ m < ms.length ∧ t.r ≤ m then
    if 0 ≤ l ∧ l < t.ls.length then
      match ms[m.toNat]?, t.ls[l.toNat]?, t.hs[l.toNat]? with
      | some M, some L, some h => codeP2 rooms M L.2 h.2 (t.ns[m.toNat]?.getD 0) (bagTo (othI M g) t.ls t.hs t.hs.length).length g
      | _, _, _ => 2
    else 2
  else 1
def codeD (rooms : List Int) (t : Tr) (l w : Int) : Nat :=
  if 0 ≤ l ∧ l < t.ls.length then
    if 0 ≤ w ∧ w < rooms.length then
      match t.hs[l.toNat]? with
      | some h => if (kvget h.2 w).isSome = true then 8 else 4
      | none => 4
    else 3
  else 2
inductive Dd where
  | pass (give : Bool) (m l g : Int)
  | drop (l w : Int)
def wordG : Bool → Str
  | true => Str.ofString "give"
  | false => Str.ofString "copy"
def Dd.vs : Dd → List V
  | .pass gv m l g => [.str (wordG gv), .int m, .int l, .int g]
  | .drop l w => [.str (Str.ofString "drop"), .int l, .int w]
def codeT (rooms : List Int) (ms : List M4) (t : Tr) : Dd → Nat
  | .pass _ m l g => codeP rooms ms t m l g
  | .drop l w => codeD rooms t l w
def Tr.setH (t : Tr) (l : Nat) (kv : List (Int × Int)) : Tr := { t with hs := match t.hs[l]? with | some h => t.hs.set l (h.1, kv) | none => t.hs }
def Tr.kv (t : Tr) (l : Nat) : List (Int × Int) := match t.hs[l]? with | some h => h.2 | none => []
def Tr.passed (t : Tr) (m l : Nat) (M : M4) (L : L4) (o : Int) : Tr :=
  { t.setH l (kvput (t.kv l) o M.t) with ns := t.ns.set m (t.ns[m]?.getD 0 + 1), r := m, os := noteA t.os l L o M.t }
def Tr.doneP (t : Tr) (give : Bool) (m l : Nat) (g : Int) (M : M4) (L : L4) : Tr :=
  if give = true then (t.passed m l M L (othI M g)).setH l (kvdel ((t.passed m l M L (othI M g)).kv l) g) else t.passed m l M L (othI M g)
def Tr.doneT (t : Tr) (ms : List M4) (y : V) (d : Dd) : Tr := { (match d with
  | .pass give m l g => (match ms[m.toNat]?, t.ls[l.toNat]? with | some M, some L => t.doneP give m.toNat l.toNat g M L.2 | _, _ => t)
  | .drop l w => t.setH l.toNat (kvdel (t.kv l.toNat) w)) with ds := t.ds ++ [y] }
def DeedAt (H : Hp) (y : V) (d : Dd) : Prop := ∃ a, y = .ref a ∧ H a = some (.tup d.vs)
theorem DeedAt.tups {H H' : Hp} {y : V} {d : Dd} (h : DeedAt H y d) (t : Tups H H') : DeedAt H' y d := by
  obtain ⟨a, e, h⟩ := h; exact ⟨a, e, t _ _ h⟩
section
variable {C : Addr} {H H' : Hp} {t : Tr} {rooms : List Int} {tr tm : Addr} {ps : List (Addr × M4)} {n0 : Nat}
theorem TrOk.kvAt (k : TrOk C H t rooms tr tm ps n0) {l : Nat} (hl : l < t.ls.length) : ∃ h, t.hs[l]? = some h ∧ t.kv l = h.2 ∧ H h.1 = some (.dK (kvV h.2)) := by
  have hh : t.hs[l]? = some (t.hs[l]'(by rw [k.lh]; exact hl)) := List.getElem?_eq_getElem _
  refine ⟨_, hh, ?_, k.at_.hols _ (List.getElem_mem _)⟩
  unfold Tr.kv; rw [hh]
theorem TrOk.hset (k : TrOk C H t rooms tr tm ps n0) {l : Nat} {h : Addr × List (Int × Int)} (hh : t.hs[l]? = some h) {kv : List (Int × Int)} (lk : kv.length ≤ n0) : TrOk C (upd H h.1 (.dK (kvV kv))) (t.setH l kv) rooms tr tm ps n0 := by
  have hl : l < t.hs.length := (List.getElem?_eq_some_iff.mp hh).1
  have eh : t.hs[l] = h := (List.getElem?_eq_some_iff.mp hh).2
  have hm := List.mem_of_getElem? hh
  have hd := k.at_.hols h hm
  have e : (t.setH l kv) = { t with hs := t.hs.set l (h.1, kv) } := by unfold Tr.setH; rw [hh]
  rw [e]
  have em : (t.hs.set l (h.1, kv)).map (·.1) = t.hs.map (·.1) := by
    rw [List.map_set]
    refine List.ext_getElem (by simp) fun i h1 h2 => ?_
    rw [List.getElem_set]
    split
    · rename_i z; subst z; simp [eh]
    · rfl
  have nL : ∀ {c : Addr} {o : HO}, H c = some o → (∀ z, o ≠ .dK z) → upd H h.1 (.dK (kvV kv)) c = some o := fun {c o} e n => by rw [upd_ne (ne_of e hd (by intro z; exact n _ z))]; exact e
  have tu : Tups H (upd H h.1 (.dK (kvV kv))) := Tups.setD hd
  refine ⟨⟨nL k.at_.ins (by intro _ z; cases z), nL k.at_.lts (by intro _ z; cases z), fun l hl => tu _ _ (k.at_.rows l hl), ?_, fun g hg => ?_, nL k.at_.arr (by intro _ z; cases z), nL k.at_.pas (by intro _ z; cases z), nL k.at_.dee (by intro _ z; cases z)⟩, k.bk.tups tu, k.gd, k.rm, by rw [List.length_set]; exact k.lh, k.lo, k.ln, k.few, fun g hg => ?_, k.dn, k.nd, by rw [em]; exact k.hnd⟩
  · have := nL k.at_.hol (by intro _ z; cases z)
    rw [this]
    congr 2
    have := congrArg (List.map V.ref) em
    rw [List.map_map, List.map_map] at this
    exact this.symm
  · obtain ⟨j, hj⟩ := List.mem_iff_getElem?.mp hg
    rw [List.getElem?_set] at hj
    by_cases c : l = j
    · subst c
      rw [if_pos rfl, if_pos hl] at hj
      cases hj
      exact upd_same
    · rw [if_neg c] at hj
      have hj' : j < t.hs.length := (List.getElem?_eq_some_iff.mp hj).1
      have eg : t.hs[j] = g := (List.getElem?_eq_some_iff.mp hj).2
      have ne : g.1 ≠ h.1 := fun z => by
        have := List.pairwise_iff_getElem.mp k.hnd
        have l1 : l < (t.hs.map (·.1)).length := by rw [List.length_map]; exact hl
        have l2 : j < (t.hs.map (·.1)).length := by rw [List.length_map]; exact hj'
        rcases Nat.lt_or_gt_of_ne c with cc | cc
        · exact this l j l1 l2 cc (by rw [List.getElem_map, List.getElem_map, eh, eg]; exact z.symm)
        · exact this j l l2 l1 cc (by rw [List.getElem_map, List.getElem_map, eh, eg]; exact z)
      rw [upd_ne ne]
      exact k.at_.hols g (List.mem_of_getElem? hj)
  · rcases List.mem_or_eq_of_mem_set hg with h1 | h1
    · exact k.sh g h1
    · rw [h1]; exact lk
theorem TrOk.hkeep (k : TrOk C H t rooms tr tm ps n0) {l : Nat} {h : Addr × List (Int × Int)} (hh : t.hs[l]? = some h) {o : HO} : Keeps t H (upd H h.1 o) := fun c u n e => by
  rw [upd_ne fun z => n (.inr (.inr (.inr (.inr (by rw [z]; exact List.mem_map.mpr ⟨h, List.mem_of_getElem? hh, rfl⟩)))))]; exact e
theorem TrOk.pset (k : TrOk C H t rooms tr tm ps n0) {ns : List Int} (ln : ns.length = ps.length) : TrOk C (upd H t.lP (.lst (ns.map V.int))) { t with ns := ns } rooms tr tm ps n0 := by
  obtain ⟨n1, n2, n3, n4, n5, n6, n7, n8, n9⟩ := k.nd
  have tu : Tups H (upd H t.lP (.lst (ns.map V.int))) := Tups.set k.at_.pas
  have nL : ∀ {c : Addr} {o : HO}, H c = some o → (∀ z, o ≠ .lst z) → upd H t.lP (.lst (ns.map V.int)) c = some o := fun {c o} e n => by rw [upd_ne (ne_of e k.at_.pas (by intro z; exact n _ z))]; exact e
  exact ⟨⟨nL k.at_.ins (by intro _ z; cases z), by rw [upd_ne n2]; exact k.at_.lts, fun l hl => tu _ _ (k.at_.rows l hl), by rw [upd_ne n5]; exact k.at_.hol, fun h hh => nL (k.at_.hols h hh) (by intro _ z; cases z), by rw [upd_ne n7]; exact k.at_.arr, upd_same, by rw [upd_ne n9.symm]; exact k.at_.dee⟩, k.bk.tups tu, k.gd, k.rm, k.lh, k.lo, ln, k.few, k.sh, k.dn, k.nd, k.hnd⟩
theorem TrOk.dset (k : TrOk C H t rooms tr tm ps n0) {y : V} (dn : t.ds.length < n0) : TrOk C (upd H t.lD (.lst (t.ds ++ [y]))) { t with ds := t.ds ++ [y] } rooms tr tm ps n0 := by
  obtain ⟨n1, n2, n3, n4, n5, n6, n7, n8, n9⟩ := k.nd
  have tu : Tups H (upd H t.lD (.lst (t.ds ++ [y]))) := Tups.set k.at_.dee
  have nL : ∀ {c : Addr} {o : HO}, H c = some o → (∀ z, o ≠ .lst z) → upd H t.lD (.lst (t.ds ++ [y])) c = some o := fun {c o} e n => by rw [upd_ne (ne_of e k.at_.dee (by intro z; exact n _ z))]; exact e
  exact ⟨⟨nL k.at_.ins (by intro _ z; cases z), by rw [upd_ne n3]; exact k.at_.lts, fun l hl => tu _ _ (k.at_.rows l hl), by rw [upd_ne n6]; exact k.at_.hol, fun h hh => nL (k.at_.hols h hh) (by intro _ z; cases z), by rw [upd_ne n8]; exact k.at_.arr, by rw [upd_ne n9]; exact k.at_.pas, upd_same⟩, k.bk.tups tu, k.gd, k.rm, k.lh, k.lo, k.ln, k.few, k.sh, by show (t.ds ++ [y]).length ≤ n0; rw [List.length_append]; exact dn, k.nd, k.hnd⟩
theorem TrOk.aset (k : TrOk C H t rooms tr tm ps n0) {os : List (Option Int)} (lo : os.length = t.ls.length) (b : But t.lA H H') (h : H' t.lA = some (.lst (os.map oV))) : TrOk C H' { t with os := os } rooms tr tm ps n0 := by
  obtain ⟨n1, n2, n3, n4, n5, n6, n7, n8, n9⟩ := k.nd
  have nL : ∀ {c : Addr} {o : HO}, H c = some o → (∀ z, o ≠ .lst z) → H' c = some o := fun {c o} e n => b _ _ (ne_of e k.at_.arr (by intro z; exact n _ z)) e
  have tu : Tups H H' := fun c xs e => nL e (by intro _ z; cases z)
  exact ⟨⟨nL k.at_.ins (by intro _ z; cases z), b _ _ n1 k.at_.lts, fun l hl => tu _ _ (k.at_.rows l hl), b _ _ n4 k.at_.hol, fun h hh => nL (k.at_.hols h hh) (by intro _ z; cases z), h, b _ _ n7.symm k.at_.pas, b _ _ n8.symm k.at_.dee⟩, k.bk.tups tu, k.gd, k.rm, k.lh, lo, k.ln, k.few, k.sh, k.dn, k.nd, k.hnd⟩
theorem TrOk.rset (k : TrOk C H t rooms tr tm ps n0) {r : Int} : TrOk C (upd H t.x (.ins C t.dx [("book", .ref t.b), ("letters", .ref t.lL), ("holders", .ref t.lH), ("arrivals", .ref t.lA), ("passed", .ref t.lP), ("reached", .int r), ("deeds", .ref t.lD)])) { t with r := r } rooms tr tm ps n0 := by
  have nL : ∀ {c : Addr} {o : HO}, H c = some o → (∀ a b z, o ≠ .ins a b z) → upd H t.x (.ins C t.dx [("book", .ref t.b), ("letters", .ref t.lL), ("holders", .ref t.lH), ("arrivals", .ref t.lA), ("passed", .ref t.lP), ("reached", .int r), ("deeds", .ref t.lD)]) c = some o := fun {c o} e n => by rw [upd_ne (ne_of e k.at_.ins (by intro z; exact n _ _ _ z))]; exact e
  have tu : Tups H (upd H t.x (.ins C t.dx [("book", .ref t.b), ("letters", .ref t.lL), ("holders", .ref t.lH), ("arrivals", .ref t.lA), ("passed", .ref t.lP), ("reached", .int r), ("deeds", .ref t.lD)])) := fun c xs e => nL e (by intro _ _ _ z; cases z)
  exact ⟨⟨upd_same, nL k.at_.lts (by intro _ _ _ z; cases z), fun l hl => tu _ _ (k.at_.rows l hl), nL k.at_.hol (by intro _ _ _ z; cases z), fun h hh => nL (k.at_.hols h hh) (by intro _ _ _ z; cases z), nL k.at_.arr (by intro _ _ _ z; cases z), nL k.at_.pas (by intro _ _ _ z; cases z), nL k.at_.dee (by intro _ _ _ z; cases z)⟩, k.bk.tups tu, k.gd, k.rm, k.lh, k.lo, k.ln, k.few, k.sh, k.dn, k.nd, k.hnd⟩
end
theorem TrOk.mono {C : Addr} {H : Hp} {t : Tr} {rooms : List Int} {tr tm : Addr} {ps : List (Addr × M4)} {n0 n1 : Nat} (k : TrOk C H t rooms tr tm ps n0) (l : n0 ≤ n1) : TrOk C H t rooms tr tm ps n1 :=
  ⟨k.at_, k.bk, k.gd, k.rm, k.lh, k.lo, k.ln, k.few, fun h hh => Nat.le_trans (k.sh h hh) l, Nat.le_trans k.dn l, k.nd, k.hnd⟩
theorem Keeps.put {t : Tr} {H : Hp} {c : Addr} {o : HO} (h : t.own c) : Keeps t H (upd H c o) := fun a u n e => by
  rw [upd_ne fun z => n (by rw [z]; exact h)]; exact e
theorem Keeps.but {t : Tr} {H H' : Hp} {c : Addr} (h : t.own c) (b : But c H H') : Keeps t H H' := fun a u n e => b a u (fun z => n (by rw [z]; exact h)) e
def spNeedL (C : Addr) (X : XC) : Sp := fun vs H Q E => ∃ t l rooms tr tm ps n0, vs = [.ref t.x, .int l] ∧ TrOk C H t rooms tr tm ps n0 ∧ (0 ≤ l ∧ l < t.ls.length → Q .non H) ∧ (¬ (0 ≤ l ∧ l < t.ls.length) → E (.ref X.lett) none H)
def spNeedD (C : Addr) (X : XC) : Sp := fun vs H Q E => ∃ t l w rooms tr tm ps n0, vs = [.ref t.x, .int l, .int w] ∧ TrOk C H t rooms tr tm ps n0 ∧ (codeD rooms t l w = 8 → Q .non H) ∧ (codeD rooms t l w ≠ 8 → E (.ref (X.of (codeD rooms t l w))) none H)
def spNeedP (C : Addr) (X : XC) : Sp := fun vs H Q E => ∃ t m l g rooms tr tm ps n0, vs = [.ref t.x, .int m, .int l, .int g] ∧ TrOk C H t rooms tr tm ps n0 ∧ (codeP rooms (ps.map (·.2)) t m l g = 8 → ∀ H', Same H H' → Q .non H') ∧ (codeP rooms (ps.map (·.2)) t m l g ≠ 8 → ∀ H', Same H H' → E (.ref (X.of (codeP rooms (ps.map (·.2)) t m l g))) none H')
def spPassOn (C : Addr) : Sp := fun vs H Q _ => ∃ t, ∃ m l : Nat, ∃ g M L rooms tr tm ps n0, vs = [.ref t.x, .int (m : Int), .int (l : Int), .int g] ∧ TrOk C H t rooms tr tm ps n0 ∧ (ps.map (·.2))[m]? = some M ∧ t.ls[l]? = some L ∧ (g = M.lo ∨ g = M.hi) ∧ n0 < 200 ∧
  ∀ H', Keeps t H H' → TrOk C H' (t.passed m l M L.2 (othI M g)) rooms tr tm ps (n0 + 1) → Q .non H'
theorem noteA_len {os : List (Option Int)} {n : Nat} {l : L4} {w t : Int} : (noteA os n l w t).length = os.length := by
  unfold noteA
  split
  · rw [List.length_set]
  · rfl
def Dd.isP : Dd → Bool
  | .pass _ _ _ _ => true
  | .drop _ _ => false
theorem codeP_at {rooms : List Int} {ms : List M4} {t : Tr} {m l : Nat} {g n : Int} {M : M4} {L : Addr × L4} {h : Addr × List (Int × Int)} (hr : t.r ≤ m) (hM : ms[m]? = some M) (hL : t.ls[l]? = some L) (hh : t.hs[l]? = some h) (hn : t.ns[m]? = some n) :
    codeP rooms ms t m l g = codeP2 rooms M L.2 h.2 n (bagTo (othI M g) t.ls t.hs t.hs.length).length g := by
  have h1 : m < ms.length := (List.getElem?_eq_some_iff.mp hM).1
  have h2 : l < t.ls.length := (List.getElem?_eq_some_iff.mp hL).1
  unfold codeP
  rw [if_pos ⟨by omega, by omega, hr⟩, if_pos ⟨by omega, by omega⟩, Int.toNat_natCast, Int.toNat_natCast, hM, hL, hh, hn]
  rfl
theorem codeP8 {rooms : List Int} {ms : List M4} {t : Tr} {m l g : Int} (lh : t.hs.length = t.ls.length) (e : codeP rooms ms t m l g = 8) : ∃ (m' l' : Nat) (M : M4) (L : Addr × L4) (h : Addr × List (Int × Int)), m = m' ∧ l = l' ∧ ms[m']? = some M ∧ t.ls[l']? = some L ∧ t.hs[l']? = some h ∧ t.r ≤ m ∧ (g = M.lo ∨ g = M.hi) ∧ below (kvget h.2 g) M.t = true ∧ (kvget h.2 (othI M g)).isSome = false ∧ codeP2 rooms M L.2 h.2 (t.ns[m']?.getD 0) (bagTo (othI M g) t.ls t.hs t.hs.length).length g = 8 := by
  unfold codeP at e
  split at e
  · rename_i c1
    split at e
    · rename_i c2
      obtain ⟨m', rfl⟩ := Int.eq_ofNat_of_zero_le c1.1
      obtain ⟨l', rfl⟩ := Int.eq_ofNat_of_zero_le c2.1
      rw [Int.toNat_natCast, Int.toNat_natCast] at e
      have h1 : ms[m']? = some (ms[m']'(by omega)) := List.getElem?_eq_getElem _
      have h2 : t.ls[l']? = some (t.ls[l']'(by omega)) := List.getElem?_eq_getElem _
      have h3 : t.hs[l']? = some (t.hs[l']'(by omega)) := List.getElem?_eq_getElem _
      rw [h1, h2, h3] at e
      refine ⟨m', l', _, _, _, rfl, rfl, h1, h2, h3, c1.2.2, ?_⟩
      have e' := e
      dsimp only at e
      unfold codeP2 at e
      split at e
      · rename_i c3
        split at e
        · rename_i c4
          split at e
          · cases e
          · rename_i c5
            exact ⟨c3, c4, Bool.not_eq_true _ ▸ c5, e'⟩
        · cases e
      · cases e
    · cases e
  · cases e
theorem othI_in {w : Int} {ms : List M4} {M : M4} {m : Nat} {g : Int} (gd : Good w ms) (hM : ms[m]? = some M) : 0 ≤ othI M g ∧ othI M g < w := by
  obtain ⟨h1, h2, h3, _⟩ := gd.each M (List.mem_of_getElem? hM)
  unfold othI
  split <;> omega
theorem codeD8 {rooms : List Int} {t : Tr} {l w : Int} (e : codeD rooms t l w = 8) : ∃ (l' : Nat) (h : Addr × List (Int × Int)), l = l' ∧ l' < t.ls.length ∧ t.hs[l']? = some h ∧ (kvget h.2 w).isSome = true ∧ 0 ≤ w ∧ w < rooms.length := by
  unfold codeD at e
  split at e
  · rename_i c1
    obtain ⟨l', rfl⟩ := Int.eq_ofNat_of_zero_le c1.1
    split at e
    · rename_i c2
      rw [Int.toNat_natCast] at e
      cases hh : t.hs[l']? with
      | none => rw [hh] at e; cases e
      | some h =>
        rw [hh] at e
        dsimp only at e
        split at e
        · rename_i c3; exact ⟨l', h, rfl, by omega, hh, c3, c2.1, c2.2⟩
        · cases e
    · cases e
  · cases e
theorem kvget_put {kv : List (Int × Int)} {o t g : Int} : kvget (kvput kv o t) g = if g = o then some t else kvget kv g := by
  have h := valV_put (kvV kv) (Sum.inl o : Key) (Sum.inl g) (V.int t)
  rw [putK_kv, valV_kv, valV_kv] at h
  by_cases c : g = o
  · rw [if_pos (congrArg Sum.inl c)] at h
    rw [if_pos c]
    cases e : kvget (kvput kv o t) g with
    | none => rw [e] at h; cases h
    | some y => rw [e] at h; cases h; rfl
  · rw [if_neg fun z => c (Sum.inl.inj z)] at h
    rw [if_neg c]
    cases e : kvget (kvput kv o t) g with
    | none =>
      cases e2 : kvget kv g with
      | none => rfl
      | some y => rw [e, e2] at h; cases h
    | some y =>
      cases e2 : kvget kv g with
      | none => rw [e, e2] at h; cases h
      | some z => rw [e, e2] at h; cases h; rfl
theorem below_some {o : Option Int} {t : Int} (h : below o t = true) : o.isSome = true := by
  cases o with
  | none => cases h
  | some _ => rfl
theorem passed_kv {C : Addr} {H : Hp} {t : Tr} {rooms : List Int} {tr tm : Addr} {ps : List (Addr × M4)} {n0 m l : Nat} {M : M4} {L : L4} {o : Int} {h : Addr × List (Int × Int)} (hh : t.hs[l]? = some h) : (t.passed m l M L o).hs[l]? = some (h.1, kvput h.2 o M.t) ∧ (t.passed m l M L o).kv l = kvput h.2 o M.t := by
  have hl : l < t.hs.length := (List.getElem?_eq_some_iff.mp hh).1
  have e1 : (t.passed m l M L o).hs[l]? = some (h.1, kvput h.2 o M.t) := by
    show (match t.hs[l]? with | some h => t.hs.set l (h.1, kvput (t.kv l) o M.t) | none => t.hs)[l]? = _
    have ek : t.kv l = h.2 := by unfold Tr.kv; rw [hh]
    rw [hh, ek]
    exact List.getElem?_set_self hl
  refine ⟨e1, ?_⟩
  unfold Tr.kv
  rw [e1]
theorem But.free {x c : Addr} {H H' : Hp} (b : But x H H') (n : c ≠ x) (h : H' c = none) : H c = none := by
  cases z : H c with
  | none => rfl
  | some u => have := b _ _ n z; rw [h] at this; cases this
structure New (H : Hp) (x b : Addr) (ls : List (Addr × L4)) (m : Nat) (t : Tr) : Prop where
  ex : t.x = x
  eb : t.b = b
  el : t.ls = ls
  eh : t.hs.map (·.2) = ls.map fun l => [((l.2.s : Int), l.2.a)]
  eo : t.os = ls.map fun l => begA l.2
  en : t.ns = List.replicate m 0
  er : t.r = 0
  ed : t.ds = []
  fr : ∀ c, t.own c ∨ c = t.lL ∨ c = t.lH → c = x ∨ H c = none
def spInit2 (C : Addr) : Sp := fun vs H Q _ => ∃ x dx b l0 ls rooms tr tm ps, vs = [.ref x, .ref b, .ref l0] ∧ H x = some (.ins C dx []) ∧ BookAt H b rooms tr tm ps ∧ Good rooms.length (ps.map (·.2)) ∧ rooms.length ≤ 12 ∧ H l0 = some (.lst (ls.map fun l => V.ref l.1)) ∧ (∀ l ∈ ls, H l.1 = some (.tup (letRow l.2))) ∧ ls.length ≤ 41 ∧
  ∀ t H', But x H H' → TrOk C H' t rooms tr tm ps 1 → New H x b ls ps.length t → Q .non H'
end Sm
set_option Elab.async false
set_option linter.all false
set_option maxRecDepth 100000
set_option maxHeartbeats 400000
namespace L2
open PySem PySem.Spec PyProof.Rows
section
variable {X : Cx}
end
end L2
namespace Sm
open PySem L2 SmSort
def xcB (K : PySem.W.Frag) (X : XC) (me : Addr) (oth : List Addr) : Bool := (List.range 8).all fun n =>
  (PySem.W.exmOne K (.ref (X.of n)) (.ref me) == some true) && (PySem.W.kitOne K (.ref (X.of n)) (.type "ValueError") == some true) && (PySem.W.kitAny K (.ref (X.of n)) (oth.map Value.ref) == some false) && xclsB K (X.of n) && (List.range 8).all fun j => PySem.W.kitOne K (.ref (X.of n)) (.ref (X.of j)) == some (n == j)
theorem xcB.at {K : PySem.W.Frag} {X : XC} {me : Addr} {oth : List Addr} (h : xcB K X me oth = true) {n : Nat} (hn : n < 8) : PySem.W.exmOne K (.ref (X.of n)) (.ref me) = some true ∧ PySem.W.kitOne K (.ref (X.of n)) (.type "ValueError") = some true ∧ PySem.W.kitAny K (.ref (X.of n)) (oth.map Value.ref) = some false ∧ XCls K (X.of n) ∧ ∀ j, j < 8 → PySem.W.kitOne K (.ref (X.of n)) (.ref (X.of j)) = some (n == j) := by
  have h1 := List.all_eq_true.mp h n (List.mem_range.mpr hn)
  simp only [Bool.and_eq_true] at h1
  obtain ⟨⟨⟨⟨a, b⟩, c⟩, d⟩, e⟩ := h1
  exact ⟨eq_of_beq a, eq_of_beq b, eq_of_beq c, XCls.of d, fun j hj => eq_of_beq (List.all_eq_true.mp e j (List.mem_range.mpr hj))⟩
def kindsL (n : Nat) : List V := [.bl (n == 0), .bl (n == 1), .bl (n == 2), .bl (n == 3), .bl (n == 4), .bl (n == 5), .bl (n == 6), .bl (n == 7)]
theorem kinds_count : ∀ n, n < 8 → (kindsL n).countP (fun u => decide (u = V.bl true)) = 1 := by decide
theorem kinds_at : ∀ n, n < 8 → (kindsL n)[n]? = some (V.bl true) := by decide
theorem kinds_no : ∀ n, n < 8 → ∀ m, m < n → (kindsL n)[m]? = some (V.bl false) := by decide
theorem kinds_eqv {K : PySem.W.Frag} {H : Hp} {n : Nat} : ∀ u ∈ kindsL n, Eqv K H 0 u (.bl true) (decide (u = V.bl true)) := fun u hu => by
  obtain ⟨b, rfl⟩ : ∃ b, u = V.bl b := by
    unfold kindsL at hu
    simp only [List.mem_cons, List.not_mem_nil, or_false] at hu
    rcases hu with rfl | rfl | rfl | rfl | rfl | rfl | rfl | rfl <;> exact ⟨_, rfl⟩
  exact .inr ⟨rfl, rfl, by cases b <;> rfl⟩
theorem codeT_lt {rooms : List Int} {ms : List M4} {t : Tr} {d : Dd} (h : codeT rooms ms t d ≠ 8) : codeT rooms ms t d < 8 := by
  have p2 : ∀ {rooms M L kv n bag g}, codeP2 rooms M L kv n bag g ≤ 8 := by
    intro rooms M L kv n bag g
    unfold codeP2
    split
    · split
      · split
        · decide
        · split
          · decide
          · split <;> decide
      · decide
    · decide
  have : codeT rooms ms t d ≤ 8 := by
    cases d with
    | pass gv m l g =>
      show codeP rooms ms t m l g ≤ 8
      unfold codeP
      split
      · split
        · split
          · exact p2
          · decide
        · decide
      · decide
    | drop l w =>
      show codeD rooms t l w ≤ 8
      unfold codeD
      split
      · split
        · split
          · split <;> decide
          · decide
        · decide
      · decide
  omega
def spAny : Sp := fun vs H Q _ => ∃ p n, vs = [.ref p, .int n] ∧ 0 ≤ n ∧ n ≤ 1000 ∧ Purse H p ∧ ∀ z H', Go p H H' → Q (.int z) H'
end Sm
set_option Elab.async false
set_option linter.all false
set_option maxRecDepth 100000
set_option maxHeartbeats 400000
namespace Sm
open PySem L2 SmSort
structure Twin (t u : Tr) : Prop where
  ls : t.ls = u.ls
  hs : t.hs.map (·.2) = u.hs.map (·.2)
  os : t.os = u.os
  ns : t.ns = u.ns
  r : t.r = u.r
theorem eq_refsL {K : PySem.W.Frag} {H : Hp} {l d : Addr} {xs : List V} {Q : VK} {neg : Bool} (hl : H l = some (.lst xs)) (hd : H d = some (.lst xs)) (hr : ∀ x ∈ xs, ∃ a, x = V.ref a) (q : Q (.bl (if neg = true then !true else true)) H) : rEqv K neg (.ref l) (.ref d) H Q := by
  refine ⟨0, l, d, _, _, fun _ => true, true, by decide, rfl, rfl, .inl ⟨SqL.of hl, SqL.of hd⟩, by simp, fun i x y hx hy => ?_, q⟩
  rw [hx] at hy; cases hy
  obtain ⟨a, rfl⟩ := hr x (List.mem_of_getElem? hx)
  exact .inl ⟨rfl, ⟨_, rfl⟩, rfl⟩
structure SameAd (t u : Tr) : Prop where
  x : u.x = t.x
  b : u.b = t.b
  lL : u.lL = t.lL
  lH : u.lH = t.lH
  lA : u.lA = t.lA
  lP : u.lP = t.lP
  lD : u.lD = t.lD
  ls : u.ls = t.ls
  hs : u.hs.map (·.1) = t.hs.map (·.1)
theorem SameAd.own {t u : Tr} (s : SameAd t u) (c : Addr) : u.own c ↔ t.own c := by
  unfold Tr.own
  rw [s.x, s.lA, s.lP, s.lD, s.hs]
theorem setH_ad (t : Tr) (l : Nat) (kv : List (Int × Int)) : (t.setH l kv).hs.map (·.1) = t.hs.map (·.1) := by
  unfold Tr.setH
  dsimp only
  cases h : t.hs[l]? with
  | none => rfl
  | some a =>
    dsimp only
    have hl : l < t.hs.length := (List.getElem?_eq_some_iff.mp h).1
    have eh : t.hs[l] = a := (List.getElem?_eq_some_iff.mp h).2
    rw [List.map_set]
    refine List.ext_getElem (by simp) fun i h1 h2 => ?_
    rw [List.getElem_set]
    split
    · rename_i z; subst z; simp [eh]
    · rfl
theorem doneT_ad (t : Tr) (ms : List M4) (y : V) (d : Dd) : SameAd t (t.doneT ms y d) := by
  cases d with
  | drop l w => exact ⟨rfl, rfl, rfl, rfl, rfl, rfl, rfl, rfl, setH_ad _ _ _⟩
  | pass gv m l g =>
    have key : SameAd t (match ms[m.toNat]?, t.ls[l.toNat]? with | some M, some L => t.doneP gv m.toNat l.toNat g M L.2 | _, _ => t) := by
      cases ms[m.toNat]? with
      | none => exact ⟨rfl, rfl, rfl, rfl, rfl, rfl, rfl, rfl, rfl⟩
      | some M =>
        cases t.ls[l.toNat]? with
        | none => exact ⟨rfl, rfl, rfl, rfl, rfl, rfl, rfl, rfl, rfl⟩
        | some L =>
          dsimp only
          have e1 : ((t.passed m.toNat l.toNat M L.2 (othI M g)).hs).map (·.1) = t.hs.map (·.1) := setH_ad t _ _
          unfold Tr.doneP
          cases gv with
          | false => exact ⟨rfl, rfl, rfl, rfl, rfl, rfl, rfl, rfl, e1⟩
          | true =>
            rw [if_pos rfl]
            exact ⟨rfl, rfl, rfl, rfl, rfl, rfl, rfl, rfl, (setH_ad _ _ _).trans e1⟩
    exact ⟨key.x, key.b, key.lL, key.lH, key.lA, key.lP, key.lD, key.ls, key.hs⟩
theorem TrOk.there {C : Addr} {H : Hp} {t : Tr} {rooms : List Int} {tr tm : Addr} {ps : List (Addr × M4)} {n0 : Nat} (k : TrOk C H t rooms tr tm ps n0) {c : Addr} (h : t.own c ∨ c = t.lL ∨ c = t.lH) : ∃ o, H c = some o ∧ ∀ xs, o ≠ .tup xs := by
  rcases h with (rfl | rfl | rfl | rfl | h) | rfl | rfl
  · exact ⟨_, k.at_.ins, by intro _ z; cases z⟩
  · exact ⟨_, k.at_.arr, by intro _ z; cases z⟩
  · exact ⟨_, k.at_.pas, by intro _ z; cases z⟩
  · exact ⟨_, k.at_.dee, by intro _ z; cases z⟩
  · obtain ⟨g, hg, rfl⟩ := List.mem_map.mp h
    exact ⟨_, k.at_.hols g hg, by intro _ z; cases z⟩
  · exact ⟨_, k.at_.lts, by intro _ z; cases z⟩
  · exact ⟨_, k.at_.hol, by intro _ z; cases z⟩
section
variable {C : Addr} {H0 H H' : Hp} {t u : Tr} {rooms : List Int} {tr tm : Addr} {ps : List (Addr × M4)} {n0 n1 : Nat}
end
end Sm
set_option Elab.async false
set_option linter.all false
set_option maxRecDepth 100000
set_option maxHeartbeats 400000
namespace L2
open PySem PySem.Spec PyProof.Rows
open AutoSeq1 (wpAny_loadPart')
theorem dict_eq_str (d : Addr) (o : Obj) (b : Str) (u : Tok) :
    Meets (Builtin.«dict.__eq__» ⟨[.ref d, .str b u], []⟩) (fun _ R s => (s.heap.get? d = some o ∧ o.cls = .type "dict") ∧ R (.ok (.ret .notImplemented)) s) :=
  .of_wp fun prog w A R s ⟨⟨hl, hc⟩, h⟩ => by
    unfold Builtin.«dict.__eq__»
    change wpAny (model prog w) A.in1 (do
      let __x ← Builtin.Dict.dictSlotArgs "__eq__" { pos := [Value.ref d, Value.str b u] }
      match __x with
        | (self, other) => do
          let __do_lift ← isInstance other (Value.type "dict")
          if (!__do_lift) = true then do
              rule (toString "dict." ++ toString "__eq__" ++ toString ".not-a-dict")
              ret Value.notImplemented
            else do
              let __do_lift ← Builtin.Dict.addrOf self
              let __do_lift_1 ← Builtin.Dict.addrOf other
              let __do_lift ← Builtin.Dict.samePairs (toString "dict." ++ toString "__eq__") __do_lift __do_lift_1
              ret (Value.bool (__do_lift == true))) _ _ s
    have ty : s.TypeIs (.ref d) "dict" := ⟨o, hl, hc⟩
    have f1 := F.sub_str_dict
    unfold Builtin.Dict.dictSlotArgs Builtin.Dict.notOrdered
    wp_walk
    exact ⟨_, rfl, h⟩
theorem str_eq_dict (b : Str) (u : Tok) (d : Addr) (o : Obj) (es : Array DictEntry) (ep : Nat) : Meets (Builtin.«str.__eq__» ⟨[.str b u, .ref d], []⟩) (fun _ R s => (s.heap.get? d = some o ∧ o.data = .dict es ep) ∧ R (.ok (.ret .notImplemented)) s) :=
  .of_wp fun prog w A R s h => by
    obtain ⟨hp, g, dd, tk, os⟩ := s
    obtain ⟨⟨hl, hc⟩, h⟩ := h
    wp_walk using wpAny_loadPart' hl, wpAny_load hl
    rw [hc]
    wp_walk
    exact ⟨_, rfl, h⟩
section
variable {A : Around} {s : Shared} {d : Addr} {o : Obj} {es : Array DictEntry} {ep : Nat}
theorem rc_dict_str (b : Str) (u : Tok) (hl : s.heap.get? d = some o) (hc : o.cls = .type "dict") (hd : o.data = .dict es ep) (hu : A.units < cLine) : SeqAt.RcAt A s (.ref d) (.str b u) false := fun prog w E Q h =>
  SeqAt.rc_eq_decline_or (k := false) ⟨_, hl, hc⟩ (typeIs_str s b u) (by decide) F.sub_str_dict F.slot_dict_eq F.slot_str_eq_refl
    (fun _ hq => call_meets F.slot_dict_eq ⟨_, hl, hc⟩ F.entry_dict_eq (F.args_dict_eq_2 _ _) (dict_eq_str d o b u) ⟨⟨hl, hc⟩, hq⟩)
    (fun _ hq => call_meets F.slot_str_eq_refl (typeIs_str s b u) F.entry_str_eq (F.args_str_eq_2 _ _) (str_eq_dict b u d o es ep) ⟨⟨hl, hd⟩, hq⟩)
    (fun _ hq => wpAny_of_eq (rfl : isSame (.ref d) (.str b u) = pure false) hq) (.inr hu) h
theorem rc_str_dict (b : Str) (u : Tok) (hl : s.heap.get? d = some o) (hc : o.cls = .type "dict") (hd : o.data = .dict es ep) (hu : A.units < cLine) : SeqAt.RcAt A s (.str b u) (.ref d) false := fun prog w E Q h =>
  SeqAt.rc_eq_decline_or (k := false) (typeIs_str s b u) ⟨_, hl, hc⟩ (by decide) F.sub_dict_str F.slot_str_eq F.slot_dict_eq_refl
    (fun _ hq => call_meets F.slot_str_eq (typeIs_str s b u) F.entry_str_eq (F.args_str_eq_2 _ _) (str_eq_dict b u d o es ep) ⟨⟨hl, hd⟩, hq⟩)
    (fun _ hq => call_meets F.slot_dict_eq_refl ⟨_, hl, hc⟩ F.entry_dict_eq (F.args_dict_eq_2 _ _) (dict_eq_str d o b u) ⟨⟨hl, hc⟩, hq⟩)
    (fun _ hq => wpAny_of_eq (rfl : isSame (.str b u) (.ref d) = pure false) hq) (.inr hu) h
theorem eq_str_dict (b : Str) (u : Tok) (hl : s.heap.get? d = some o) (hc : o.cls = .type "dict") (hd : o.data = .dict es ep) (hu : A.units < cLine) : SeqAt.EqAt A s (.str b u) (.ref d) false := fun prog w E Q h => by
  unfold eqBool
  refine wpAny_holding ?_
  refine wpAny_ite_split (fun hab => absurd (eq_of_beq hab) nofun) (fun _ => ?_)
  exact wpAny_bind (rc_str_dict b u hl hc hd hu prog w E _ (wpAny_truthy_bool h))
end
end L2
namespace L2
open PySem PySem.Spec PyProof.Rows
def partV (H : Hp) (x : V) : Prop := flatV x = true ∨ ∃ a, x = .ref a ∧ ((∃ xs, H a = some (.lst xs)) ∨ (∃ xs, H a = some (.tup xs)) ∨ ∃ kvs, H a = some (.dK kvs))
theorem scal_str {x : V} {z : Str} (h : flatV x = true) : scal x (.str z) = true := by
  cases x <;> first | rfl | exact absurd (show false = true from h) Bool.false_ne_true
theorem dec_strW {x : V} {z : Str} : decide (x = .str z) = eqV (.str z) x := by
  cases x with
  | str w =>
    rw [Bool.eq_iff_iff]
    simp [eqV]
    exact eq_comm
  | _ => rfl
theorem dict_at {X : Cx} {pins : List (Addr × Obj)} {σ : St} {H : Hp} {s : Shared} {a : Addr} {kvs : List (Key × V)} (I : Inv X pins σ H s) (e : H a = some (.dK kvs)) : ∃ o es ep, s.heap.get? a = some o ∧ o.cls = .type "dict" ∧ o.data = .dict es ep := by
  obtain ⟨_, _, vs, _, p⟩ := (show ObjOk X.prog X.w H s.heap a (.dK kvs) from I.hok a _ e)
  obtain ⟨o, es, ep, g, x, d, _⟩ := p
  exact ⟨o, es, ep, g, x.1, d⟩
def rEqW : R2 := fun x y H Q => ∃ z, y = .str z ∧ partV H x ∧ Q (.bl (eqV (.str z) x)) H
theorem op_eqW {X : Cx} (hu : X.A.units + 64 < cLine) : OpR X (compareOp .Eq) rEqW := by
  intro pins s σ H x y v u Q I rx ry h
  obtain ⟨z, rfl, hp, q⟩ := h
  rcases hp with f | ⟨a, rfl, ⟨xs, e⟩ | ⟨xs, e⟩ | ⟨kvs, e⟩⟩
  · exact op_eq pins s σ H x _ v u Q I rx ry ⟨scal_str f, by rw [dec_strW]; exact q⟩
  · obtain ⟨t, rfl⟩ := ry
    cases rx
    obtain ⟨its, r1, p1, _⟩ := I.list (SqL.of e)
    exact SeqAt.RcAt.list_str z t p1.isList (by omega) _ _ _ _ ⟨.bl _, H, I, rfl, q⟩
  · obtain ⟨t, rfl⟩ := ry
    cases rx
    obtain ⟨its, r1, p1, _⟩ := I.tuple (SqT.of e)
    exact SeqAt.RcAt.tuple_str z t p1 (by omega) _ _ _ _ ⟨.bl _, H, I, rfl, q⟩
  · obtain ⟨t, rfl⟩ := ry
    cases rx
    obtain ⟨o, es, ep, g, c, d⟩ := dict_at I e
    exact rc_dict_str z t g c d (by omega) _ _ _ _ ⟨.bl _, H, I, rfl, q⟩
def rInW (K : PySem.W.Frag) : R2 := fun x y H Q => ∃ p, ∃ zs : List Str, y = .ref p ∧ SqT K H p (zs.map V.str) ∧ partV H x ∧ Q (.bl (inV x (zs.map V.str))) H
theorem flat_strs {zs : List Str} : (zs.map V.str).all flatV = true := by rw [List.all_map]; exact List.all_eq_true.mpr fun _ _ => rfl
theorem val_str {zs : List Str} {us : List Value} (r : Vals (zs.map V.str) us) : ∀ u ∈ us, ∃ z t, u = .str z t := by
  intro u hu
  obtain ⟨j, hj, rfl⟩ := List.getElem_of_mem hu
  obtain ⟨x0, ex, rx0⟩ := vals_at r (j := j) (by simpa using hj)
  rw [List.getElem?_map] at ex
  cases e : zs[j]? with
  | none => rw [e] at ex; cases ex
  | some a =>
    rw [e] at ex
    cases ex
    obtain ⟨t, et⟩ := rx0
    exact ⟨a, t, by simpa using et⟩
theorem op_inW {X : Cx} (hu : X.A.units + 64 < cLine) : OpR X (compareOp .In) (rInW X.K) := by
  intro pins s σ H x y v u Q I rx ry h
  obtain ⟨p, zs, rfl, hq, hp, q⟩ := h
  rcases hp with f | ⟨a, rfl, hp⟩
  · exact op_in_seq pins s σ H x _ v u Q I rx ry ⟨p, _, rfl, .inr hq, f, flat_strs, q⟩
  cases ry
  cases rx
  obtain ⟨its, r, pl, hz⟩ := I.tuple hq
  have no : ∀ w ∈ its, SeqAt.EqAt X.A.in1 s w (.ref a) (eqU (.ref a) w) := fun w hw => by
    obtain ⟨z, t, rfl⟩ := val_str r w hw
    have hu1 : X.A.in1.units < cLine := by show X.A.units + 1 < cLine; omega
    show SeqAt.EqAt X.A.in1 s (.str z t) (.ref a) false
    rcases hp with ⟨xs, e⟩ | ⟨xs, e⟩ | ⟨kvs, e⟩
    · obtain ⟨_, _, p1, _⟩ := I.list (SqL.of e)
      exact SeqAt.EqAt.str_list z t p1.isList hu1
    · obtain ⟨_, _, p1, _⟩ := I.tuple (SqT.of e)
      exact SeqAt.EqAt.str_tuple z t p1 hu1
    · obtain ⟨o, es, ep, g, c, d⟩ := dict_at I e
      exact eq_str_dict z t g c d hu1
  refine SeqAt.in_tupleAt (eqU (.ref a)) pl (fun w hw => no w (by simpa using hw)) ⟨.bl _, H, I, rfl, ?_⟩
  rw [show its.toArray.any (eqU (.ref a)) = its.any (eqU (.ref a)) by simp, any_eqU r flat_strs]
  exact q
theorem op_inW' {X : Cx} {K : PySem.W.Frag} (hK : X.K = K) (hu : X.A.units + 64 < cLine) : OpR X (compareOp .In) (rInW K) := by subst hK; exact op_inW hu
end L2
namespace Sm
open PySem L2 SmSort
def isI : V → Bool
  | .int _ => true
  | _ => false
theorem part_ty {H : Hp} {x : V} (h : partV H x) : ∃ t, tyS H x = some t ∧ (t == "int") = isI x := by
  rcases h with f | ⟨a, rfl, ⟨xs, e⟩ | ⟨xs, e⟩ | ⟨kvs, e⟩⟩
  · cases x with
    | non => exact ⟨_, rfl, rfl⟩
    | bl b => exact ⟨_, rfl, rfl⟩
    | int i => exact ⟨_, rfl, rfl⟩
    | str z => exact ⟨_, rfl, rfl⟩
    | _ => exact absurd (show false = true from f) Bool.false_ne_true
  · exact ⟨"list", by simp only [tyS, e], rfl⟩
  · exact ⟨"tuple", by simp only [tyS, e], rfl⟩
  · exact ⟨"dict", by simp only [tyS, e], rfl⟩
theorem part_tup {H : Hp} {x : V} (h : partV H x) : (∃ a xs, x = .ref a ∧ H a = some (.tup xs)) ∨ ∃ t, tyS H x = some t ∧ isSub t "tuple" = false := by
  rcases h with f | ⟨a, rfl, ⟨xs, e⟩ | ⟨xs, e⟩ | ⟨kvs, e⟩⟩
  · cases x with
    | non => exact .inr ⟨_, rfl, rfl⟩
    | bl b => exact .inr ⟨_, rfl, rfl⟩
    | int i => exact .inr ⟨_, rfl, rfl⟩
    | str z => exact .inr ⟨_, rfl, rfl⟩
    | _ => exact absurd (show false = true from f) Bool.false_ne_true
  · exact .inr ⟨"list", by simp only [tyS, e], rfl⟩
  · exact .inl ⟨a, xs, rfl, e⟩
  · exact .inr ⟨"dict", by simp only [tyS, e], rfl⟩
theorem part_same {H H' : Hp} {x : V} (h : partV H x) (s : Same H H') : partV H' x := by
  rcases h with f | ⟨a, rfl, ⟨xs, e⟩ | ⟨xs, e⟩ | ⟨kvs, e⟩⟩
  · exact .inl f
  · exact .inr ⟨a, rfl, .inl ⟨xs, s _ _ e⟩⟩
  · exact .inr ⟨a, rfl, .inr (.inl ⟨xs, s _ _ e⟩)⟩
  · exact .inr ⟨a, rfl, .inr (.inr ⟨kvs, s _ _ e⟩)⟩
def pws : List Str := [Str.ofString "give", Str.ofString "copy"]
def passB (xs : List V) : Bool := decide (xs.length = 4) && (inV (xs.headD .non) (pws.map V.str) && (xs.drop 1).all isI)
def dropB (xs : List V) : Bool := decide (xs.length = 3) && (eqV (.str (Str.ofString "drop")) (xs.headD .non) && (xs.drop 1).all isI)
def NoD (H : Hp) (y : V) : Prop := partV H y ∧ ∀ a xs, y = .ref a → H a = some (.tup xs) → xs.length ≤ 6 ∧ (∀ x ∈ xs, partV H x) ∧ passB xs = false ∧ dropB xs = false
theorem NoD.same {H H' : Hp} {y : V} (h : NoD H y) (s : Same H H') : NoD H' y := by
  refine ⟨part_same h.1 s, fun a xs ey e => ?_⟩
  subst ey
  rcases h.1 with f | ⟨a', ea, ⟨ys, e1⟩ | ⟨ys, e1⟩ | ⟨kvs, e1⟩⟩
  · exact absurd (show false = true from f) Bool.false_ne_true
  · cases ea; rw [s _ _ e1] at e; cases e
  · cases ea
    rw [s _ _ e1] at e
    cases e
    obtain ⟨l, p, r⟩ := h.2 a _ rfl e1
    exact ⟨l, fun x hx => part_same (p x hx) s, r⟩
  · cases ea; rw [s _ _ e1] at e; cases e
def spAreWw : Sp := fun vs H Q _ => ∃ a xs, vs = [.ref a] ∧ H a = some (.tup xs) ∧ xs.length ≤ 10 ∧ (∀ x ∈ xs, partV H x) ∧ ∀ H', Same H H' → Q (.bl (xs.all isI)) H'
def spIsPassW : Sp := fun vs H Q _ => ∃ y, vs = [y] ∧ ((∃ d, DeedAt H y d ∧ ∀ H', Same H H' → Q (.bl d.isP) H') ∨ (NoD H y ∧ ∀ H', Same H H' → Q (.bl false) H'))
def spIsDropW : Sp := fun vs H Q _ => ∃ y, vs = [y] ∧ ((∃ l w, DeedAt H y (.drop l w) ∧ ∀ H', Same H H' → Q (.bl true) H') ∨ (NoD H y ∧ ∀ H', Same H H' → Q (.bl false) H'))
def spDoW (C : Addr) (X : XC) : Sp := fun vs H Q E => ∃ t y rooms tr tm ps n0, vs = [.ref t.x, y] ∧ TrOk C H t rooms tr tm ps n0 ∧ n0 < 200 ∧ ((∃ d, DeedAt H y d ∧ (codeT rooms (ps.map (·.2)) t d = 8 → ∀ H', Keeps t H H' → TrOk C H' (t.doneT (ps.map (·.2)) y d) rooms tr tm ps (n0 + 1) → Q .non H') ∧ (codeT rooms (ps.map (·.2)) t d ≠ 8 → ∀ H', Same H H' → E (.ref (X.of (codeT rooms (ps.map (·.2)) t d))) none H')) ∨
  (NoD H y ∧ ∀ H', Same H H' → E (.ref X.deed) none H'))
def spDoesW (C : Addr) : Sp := fun vs H Q _ => ∃ t y rooms tr tm ps n0, vs = [.ref t.x, y] ∧ TrOk C H t rooms tr tm ps n0 ∧ n0 < 200 ∧ ((∃ d, DeedAt H y d ∧ (codeT rooms (ps.map (·.2)) t d = 8 → ∀ H', Keeps t H H' → TrOk C H' (t.doneT (ps.map (·.2)) y d) rooms tr tm ps (n0 + 1) → Q (.int 8) H') ∧ (codeT rooms (ps.map (·.2)) t d ≠ 8 → ∀ H', Same H H' → Q (.int (codeT rooms (ps.map (·.2)) t d : Nat)) H')) ∨
  (NoD H y ∧ ∀ H', Same H H' → Q (.int 0) H'))
def ThingAt (H : Hp) (y : V) : Option Dd → Prop
  | some d => DeedAt H y d
  | none => NoD H y
theorem ThingAt.same {H H' : Hp} {y : V} {o : Option Dd} (h : ThingAt H y o) (s : Same H H') : ThingAt H' y o := by
  cases o with
  | some d => exact DeedAt.tups h fun c xs e => s _ _ e
  | none => exact NoD.same h s
def spThing : Sp := fun vs H Q _ => ∃ p b n rooms tr tm ps, vs = [.ref p, .ref b, .int n] ∧ 0 ≤ n ∧ n ≤ 1000 ∧ BookAt H b rooms tr tm ps ∧ rooms.length ≤ 12 ∧ ps.length ≤ 60 ∧ Purse H p ∧ ∀ y o H', Go p H H' → ThingAt H' y o → Q y H'
def spIsDeed : Sp := fun vs H Q _ => ∃ y o, vs = [y] ∧ ThingAt H y o ∧ ∀ H', Same H H' → Q (.bl o.isSome) H'
theorem of_len {n : Nat} {k : Nat} (h : decide (V.int (n : Int) = V.int (k : Int)) = true) : n = k := by
  have := of_decide_eq_true h
  injection this with e
  omega
theorem four {xs : List V} (h : xs.length = 4) : ∃ x0 x1 x2 x3, xs = [x0, x1, x2, x3] := by
  match xs, h with
  | [x0, x1, x2, x3], _ => exact ⟨x0, x1, x2, x3, rfl⟩
theorem three {xs : List V} (h : xs.length = 3) : ∃ x0 x1 x2, xs = [x0, x1, x2] := by
  match xs, h with
  | [x0, x1, x2], _ => exact ⟨x0, x1, x2, rfl⟩
def dueW (x0 : V) (rs : List (Str × Int)) : Int := rs.foldl (fun d r => if eqV (.str r.1) x0 = true then r.2 else d) 0
def dws : List (Str × Int) := [(Str.ofString "give", 4), (Str.ofString "copy", 4), (Str.ofString "drop", 3)]
def dueD (xs : List V) : Bool := decide (V.int (xs.length : Int) = V.int (dueW (xs.headD .non) dws)) && (xs.drop 1).all isI
theorem dueW_snoc {x0 : V} {rs : List (Str × Int)} {r : Str × Int} : dueW x0 (rs ++ [r]) = if eqV (.str r.1) x0 = true then r.2 else dueW x0 rs := by
  unfold dueW; rw [List.foldl_append]; rfl
theorem due_yes (d : Dd) : dueD d.vs = true := by
  cases d with
  | pass gv m l g => cases gv <;> rfl
  | drop l w => rfl
theorem due_no {xs : List V} (ne : xs ≠ []) (hp : passB xs = false) (hd : dropB xs = false) : dueD xs = false := by
  unfold dueD
  cases ha : (xs.drop 1).all isI with
  | false => rw [Bool.and_false]
  | true =>
    rw [Bool.and_true]
    unfold passB at hp
    unfold dropB at hd
    rw [ha, Bool.and_true] at hp hd
    have lp := List.length_pos_iff.mpr ne
    refine decide_eq_false fun e => ?_
    injection e with e
    have eI : inV (xs.headD .non) (pws.map V.str) = (eqV (.str (Str.ofString "give")) (xs.headD .non) || (eqV (.str (Str.ofString "copy")) (xs.headD .non) || false)) := rfl
    have eD : dueW (xs.headD .non) dws = if eqV (.str (Str.ofString "drop")) (xs.headD .non) = true then 3 else if eqV (.str (Str.ofString "copy")) (xs.headD .non) = true then 4 else if eqV (.str (Str.ofString "give")) (xs.headD .non) = true then 4 else 0 := rfl
    rw [eI] at hp
    rw [eD] at e
    cases c3 : eqV (.str (Str.ofString "drop")) (xs.headD .non) with
    | true =>
      rw [c3, if_pos rfl] at e
      rw [c3, decide_eq_true (by omega : xs.length = 3)] at hd
      cases hd
    | false =>
      rw [c3, if_neg Bool.false_ne_true] at e
      cases c2 : eqV (.str (Str.ofString "copy")) (xs.headD .non) with
      | true =>
        rw [c2, if_pos rfl] at e
        rw [c2, Bool.true_or, Bool.or_true, decide_eq_true (by omega : xs.length = 4)] at hp
        cases hp
      | false =>
        rw [c2, if_neg Bool.false_ne_true] at e
        cases c1 : eqV (.str (Str.ofString "give")) (xs.headD .non) with
        | true =>
          rw [c1, if_pos rfl] at e
          rw [c1, Bool.true_or, decide_eq_true (by omega : xs.length = 4)] at hp
          cases hp
        | false =>
          rw [c1, if_neg Bool.false_ne_true] at e
          omega
theorem six1 {n : Nat} (h : 1 ≤ n) : HT.sIx n 0 (some 1) = 1 := by
  rw [show (1 : Int) = ((1 : Nat) : Int) from rfl, HT.sIx_nat]; omega
theorem cut1 {x : V} {xs : List V} : cutV (x :: xs) (some 1) none = xs := by
  unfold cutV
  rw [six1 (by simp), HT.sIx_none]
  simp
end Sm
namespace Sm
open PySem L2 SmSort
theorem part_go {p : Addr} {H H' : Hp} {x : V} (h : partV H x) (g : Go p H H') : partV H' x := by
  rcases h with f | ⟨a, rfl, h⟩
  · exact .inl f
  · by_cases e : a = p
    · subst e
      obtain ⟨i, j, k, e⟩ := g.2
      exact .inr ⟨_, rfl, .inl ⟨_, e⟩⟩
    · rcases h with ⟨xs, h⟩ | ⟨xs, h⟩ | ⟨xs, h⟩
      · exact .inr ⟨_, rfl, .inl ⟨_, g.1 _ _ e h⟩⟩
      · exact .inr ⟨_, rfl, .inr (.inl ⟨_, g.1 _ _ e h⟩)⟩
      · exact .inr ⟨_, rfl, .inr (.inr ⟨_, g.1 _ _ e h⟩)⟩
theorem part_set {l : Addr} {H : Hp} {x : V} {ys zs : List V} (hl : H l = some (.lst ys)) (h : partV H x) : partV (upd H l (.lst zs)) x := by
  rcases h with f | ⟨a, rfl, h⟩
  · exact .inl f
  · by_cases e : a = l
    · subst e
      exact .inr ⟨_, rfl, .inl ⟨_, upd_same⟩⟩
    · rcases h with ⟨xs, h⟩ | ⟨xs, h⟩ | ⟨xs, h⟩
      · exact .inr ⟨_, rfl, .inl ⟨_, by rw [upd_ne e]; exact h⟩⟩
      · exact .inr ⟨_, rfl, .inr (.inl ⟨_, by rw [upd_ne e]; exact h⟩)⟩
      · exact .inr ⟨_, rfl, .inr (.inr ⟨_, by rw [upd_ne e]; exact h⟩)⟩
theorem int_of {x : V} (h : isI x = true) : ∃ i, x = .int i := by
  cases x <;> first | exact ⟨_, rfl⟩ | cases h
theorem str_of {x : V} {z : Str} (h : eqV (.str z) x = true) : x = .str z := by
  rw [← dec_strW] at h; exact of_decide_eq_true h
theorem thing_tup {H : Hp} {a : Addr} {xs : List V} (h : H a = some (.tup xs)) (l6 : xs.length ≤ 6) (hp : ∀ x ∈ xs, partV H x) : ∃ o, ThingAt H (.ref a) o := by
  by_cases c1 : passB xs = true
  · unfold passB at c1
    simp only [Bool.and_eq_true, decide_eq_true_eq] at c1
    obtain ⟨c0, c1, c2⟩ := c1
    obtain ⟨x0, x1, x2, x3, rfl⟩ := four c0
    obtain ⟨m, rfl⟩ := int_of (List.all_eq_true.mp c2 x1 (by simp))
    obtain ⟨l, rfl⟩ := int_of (List.all_eq_true.mp c2 x2 (by simp))
    obtain ⟨g, rfl⟩ := int_of (List.all_eq_true.mp c2 x3 (by simp))
    have c3 : (eqV (.str (Str.ofString "give")) x0 || (eqV (.str (Str.ofString "copy")) x0 || false)) = true := c1
    rw [Bool.or_false, Bool.or_eq_true] at c3
    rcases c3 with c3 | c3
    · rw [str_of c3] at h; exact ⟨some (.pass true m l g), a, rfl, h⟩
    · rw [str_of c3] at h; exact ⟨some (.pass false m l g), a, rfl, h⟩
  by_cases c2 : dropB xs = true
  · unfold dropB at c2
    simp only [Bool.and_eq_true, decide_eq_true_eq] at c2
    obtain ⟨c0, c3, c4⟩ := c2
    obtain ⟨x0, x1, x2, rfl⟩ := three c0
    obtain ⟨m, rfl⟩ := int_of (List.all_eq_true.mp c4 x1 (by simp))
    obtain ⟨l, rfl⟩ := int_of (List.all_eq_true.mp c4 x2 (by simp))
    rw [show x0 = _ from str_of c3] at h
    exact ⟨some (.drop m l), a, rfl, h⟩
  · refine ⟨none, .inr ⟨a, rfl, .inr (.inl ⟨_, h⟩)⟩, fun a' xs' e e' => ?_⟩
    cases e
    rw [h] at e'
    cases e'
    exact ⟨l6, hp, by simpa using c1, by simpa using c2⟩
theorem thing_no {H : Hp} {y : V} (h : partV H y) (n : ∀ a xs, y = .ref a → H a ≠ some (.tup xs)) : ThingAt H y none := ⟨h, fun a xs e e' => absurd e' (n a xs e)⟩
theorem cutV_mem {xs : List V} {lo hi : Option Int} {y : V} (h : y ∈ cutV xs lo hi) : y ∈ xs := by
  unfold cutV at h
  first | exact List.mem_of_mem_drop (List.mem_of_mem_take h) | exact List.mem_of_mem_take (List.mem_of_mem_drop h)
structure St43 (p : Addr) (H : Hp) (lo hi : Nat) (H5 : Hp) (w0 : V) (nl : Addr) (xs : List V) : Prop where
  go : Go p H H5
  word : partV H5 w0
  lst : H5 nl = some (.lst xs)
  np : nl ≠ p
  fr : H nl = none
  parts : ∀ x ∈ xs, partV H5 x
  lo : lo ≤ xs.length
  hi : xs.length ≤ hi
theorem St43.step {p : Addr} {H : Hp} {lo hi : Nat} {H5 H6 : Hp} {w0 : V} {nl : Addr} {xs : List V} (s : St43 p H lo hi H5 w0 nl xs) (g : Go p H5 H6) : St43 p H lo hi H6 w0 nl xs :=
  ⟨s.go.trans g, part_go s.word g, g.1 _ _ s.np s.lst, s.np, s.fr, fun x hx => part_go (s.parts x hx) g, s.lo, s.hi⟩
theorem St43.word' {p : Addr} {H : Hp} {lo hi : Nat} {H5 : Hp} {w0 w1 : V} {nl : Addr} {xs : List V} (s : St43 p H lo hi H5 w0 nl xs) (h : partV H5 w1) : St43 p H lo hi H5 w1 nl xs :=
  ⟨s.go, h, s.lst, s.np, s.fr, s.parts, s.lo, s.hi⟩
theorem St43.put {p : Addr} {H : Hp} {lo hi lo' hi' : Nat} {H5 : Hp} {w0 : V} {nl : Addr} {xs ys : List V} (s : St43 p H lo hi H5 w0 nl xs) (h : ∀ y ∈ ys, partV H5 y) (h1 : lo' ≤ ys.length) (h2 : ys.length ≤ hi') : St43 p H lo' hi' (upd H5 nl (.lst ys)) w0 nl ys :=
  ⟨s.go.put s.fr s.np, part_set s.lst s.word, upd_same, s.np, s.fr, fun x hx => part_set s.lst (h x hx), h1, h2⟩
theorem St43.new {p : Addr} {H : Hp} {lo hi lo' hi' : Nat} {H5 : Hp} {w0 : V} {nl l : Addr} {xs ys : List V} (s : St43 p H lo hi H5 w0 nl xs) (hl : H5 l = none) (h : ∀ y ∈ ys, partV H5 y) (h1 : lo' ≤ ys.length) (h2 : ys.length ≤ hi') : St43 p H lo' hi' (upd H5 l (.lst ys)) w0 l ys :=
  ⟨s.go.new hl, part_same s.word (same_new hl), upd_same, s.go.2.ne hl, s.go.free hl (s.go.2.ne hl), fun x hx => part_same (h x hx) (same_new hl), h1, h2⟩
end Sm
namespace Sm
open PySem L2 SmSort
theorem codeT_pos {rooms : List Int} {ms : List M4} {t : Tr} {d : Dd} : codeT rooms ms t d ≠ 0 := by
  have p2 : ∀ {rooms M L kv n bag g}, codeP2 rooms M L kv n bag g ≠ 0 := by
    intro rooms M L kv n bag g
    unfold codeP2
    repeat' split
    all_goals decide
  cases d with
  | pass gv m l g =>
    show codeP rooms ms t m l g ≠ 0
    unfold codeP
    split
    · split
      · split
        · exact p2
        · decide
      · decide
    · decide
  | drop l w =>
    show codeD rooms t l w ≠ 0
    unfold codeD
    repeat' split
    all_goals decide
theorem SameAd.refl (t : Tr) : SameAd t t := ⟨rfl, rfl, rfl, rfl, rfl, rfl, rfl, rfl, rfl⟩
theorem does43 {C : Addr} {H : Hp} {t : Tr} {y : V} {o : Option Dd} {rooms : List Int} {tr tm : Addr} {ps : List (Addr × M4)} {n0 : Nat} {Q : VK} {E : XK} (k : TrOk C H t rooms tr tm ps n0) (n : n0 < 200) (hy : ThingAt H y o)
    (f : ∀ (cd : Nat) t' H', Keeps t H H' → TrOk C H' t' rooms tr tm ps (n0 + 1) → SameAd t t' → cd < 9 → decide (cd = 0) = !o.isSome → ThingAt H' y o → t'.ds = (if cd = 8 then t.ds ++ [y] else t.ds) → Q (.int (cd : Int)) H') : spDoesW C [.ref t.x, y] H Q E := by
  refine ⟨t, y, rooms, tr, tm, ps, n0, rfl, k, n, ?_⟩
  cases o with
  | none =>
    exact .inr ⟨hy, fun H' s => f 0 t H' (Keeps.same s) ((k.same s).mono (Nat.le_succ _)) (SameAd.refl t) (by decide) rfl (ThingAt.same (o := none) hy s) rfl⟩
  | some d =>
    refine .inl ⟨d, hy, fun c H' kp k' => ?_, fun c H' s => ?_⟩
    · have hd : DeedAt H y d := hy
      refine f 8 _ H' kp k' (doneT_ad _ _ _ _) (by decide) rfl (hd.tups fun c xs e => kp c _ (fun z => by obtain ⟨o, ho, no⟩ := k.there (.inl z); rw [e] at ho; cases ho; exact no _ rfl) e) (by rw [if_pos rfl]; rfl)
    · have hd : DeedAt H y d := hy
      have l := codeT_lt c
      exact f _ t H' (Keeps.same s) ((k.same s).mono (Nat.le_succ _)) (SameAd.refl t) (by omega) (decide_eq_false codeT_pos) (hd.tups fun c xs e => s _ _ e) (by rw [if_neg c])
end Sm
namespace Sm
open PySem L2
theorem line9 : 1002 ≤ sizeLine := by rw [sizeLine_eq]; decide
end Sm

set_option Elab.async false
set_option linter.all false
set_option maxRecDepth 100000
set_option maxHeartbeats 4000000
namespace Sm
open PySem L2
def top (i : Nat) : Stmt := PySem.Challenge.pw_satchelmeet_k43_forms_of_deeds.main.body.getD i (.Pass ⟨0, 0, 0, 0⟩)
abbrev s__law_purse : Stmt := top 34
abbrev s__law_take : Stmt := top 35
abbrev s__law_far : Stmt := top 36
abbrev s__law_rooms : Stmt := top 37
abbrev s__law_step : Stmt := top 38
abbrev s__law_meetings : Stmt := top 39
abbrev s__law_book : Stmt := top 40
abbrev s__law_time : Stmt := top 41
abbrev s__law_letter : Stmt := top 42
abbrev s__law_letters : Stmt := top 43
abbrev s__law_whole : Stmt := top 45
abbrev s_is_whole : Stmt := top 21
abbrev s_is_within : Stmt := top 22
abbrev s_is_below : Stmt := top 23
abbrev s_is_meeting_number : Stmt := top 25
abbrev s_is_walker : Stmt := top 26
abbrev s_other_at : Stmt := top 27
abbrev s_are_wholes : Stmt := top 32
abbrev s_is_passing : Stmt := top 30
abbrev s_is_drop : Stmt := top 31
abbrev s_Trip_takes_room : Stmt := inClass (top 29) 6
abbrev s_Trip_note_arrival : Stmt := inClass (top 29) 11
abbrev s_Trip___init__ : Stmt := inClass (top 29) 0
abbrev s_Trip_bag : Stmt := inClass (top 29) 3
abbrev s_Trip_done : Stmt := inClass (top 29) 5
abbrev s_Trip_need_letter : Stmt := inClass (top 29) 9
abbrev s_Trip_need_drop : Stmt := inClass (top 29) 8
abbrev s_Trip_need_passing : Stmt := inClass (top 29) 7
abbrev s_Trip_pass_on : Stmt := inClass (top 29) 10
abbrev s_Trip_do : Stmt := inClass (top 29) 1
abbrev s__law_any : Stmt := top 44
abbrev s__law_does : Stmt := top 46
abbrev s__law_thing_here : Stmt := top 47
abbrev s__law_is_deed : Stmt := top 48
abbrev s_law : Stmt := top 49
set_option genInjectivity false
set_option genSizeOf false
structure Ad where
  a__law_purse : Addr
  d__law_purse : FuncData
  a__law_take : Addr
  d__law_take : FuncData
  a__law_far : Addr
  d__law_far : FuncData
  a__law_rooms : Addr
  d__law_rooms : FuncData
  a__law_step : Addr
  d__law_step : FuncData
  a__law_meetings : Addr
  d__law_meetings : FuncData
  a__law_book : Addr
  d__law_book : FuncData
  a__law_time : Addr
  d__law_time : FuncData
  a__law_letter : Addr
  d__law_letter : FuncData
  a__law_letters : Addr
  d__law_letters : FuncData
  a__law_whole : Addr
  d__law_whole : FuncData
  a_is_whole : Addr
  d_is_whole : FuncData
  a_is_within : Addr
  d_is_within : FuncData
  a_is_below : Addr
  d_is_below : FuncData
  a_is_meeting_number : Addr
  d_is_meeting_number : FuncData
  a_is_walker : Addr
  d_is_walker : FuncData
  a_other_at : Addr
  d_other_at : FuncData
  a_are_wholes : Addr
  d_are_wholes : FuncData
  a_is_passing : Addr
  d_is_passing : FuncData
  a_is_drop : Addr
  d_is_drop : FuncData
  a_Trip_takes_room : Addr
  d_Trip_takes_room : FuncData
  a_Trip_note_arrival : Addr
  d_Trip_note_arrival : FuncData
  a_Trip___init__ : Addr
  d_Trip___init__ : FuncData
  a_Trip_bag : Addr
  d_Trip_bag : FuncData
  a_Trip_done : Addr
  d_Trip_done : FuncData
  a_Trip_need_letter : Addr
  d_Trip_need_letter : FuncData
  a_Trip_need_drop : Addr
  d_Trip_need_drop : FuncData
  a_Trip_need_passing : Addr
  d_Trip_need_passing : FuncData
  a_Trip_pass_on : Addr
  d_Trip_pass_on : FuncData
  a_Trip_do : Addr
  d_Trip_do : FuncData
  a__law_any : Addr
  d__law_any : FuncData
  a__law_does : Addr
  d__law_does : FuncData
  a__law_thing_here : Addr
  d__law_thing_here : FuncData
  a__law_is_deed : Addr
  d__law_is_deed : FuncData
  a_law : Addr
  d_law : FuncData
  c_HasIt : Addr
  c_MeetError : Addr
  c_NoBook : Addr
  c_NoClaim : Addr
  c_NoDay : Addr
  c_NoDeed : Addr
  c_NoLetter : Addr
  c_NoMeeting : Addr
  c_NoName : Addr
  c_NoPass : Addr
  c_NoRoom : Addr
  c_NoRow : Addr
  c_NoRule : Addr
  c_NoText : Addr
  c_NoWalker : Addr
  c_NotThere : Addr
  c_TooMany : Addr
  c_Trip : Addr
  c_Twice : Addr
structure Tx (K : PySem.W.Frag) (mg : Str → Option Value) (a : Ad) : Prop where
  F__law_purse : Fun K "_law_purse" "_law_purse" s__law_purse a.a__law_purse a.d__law_purse
  i__law_purse : Binds K a.d__law_purse ["_law_script", "_law_k"] []
  m__law_purse : mg "_law_purse" = some (.ref a.a__law_purse)
  k__law_purse : PySem.W.keepIn K (.ref a.a__law_purse) = true
  F__law_take : Fun K "_law_take" "_law_take" s__law_take a.a__law_take a.d__law_take
  i__law_take : Binds K a.d__law_take ["_law_purse_here", "_law_many"] []
  m__law_take : mg "_law_take" = some (.ref a.a__law_take)
  k__law_take : PySem.W.keepIn K (.ref a.a__law_take) = true
  F__law_far : Fun K "_law_far" "_law_far" s__law_far a.a__law_far a.d__law_far
  i__law_far : Binds K a.d__law_far ["_law_purse_here"] []
  m__law_far : mg "_law_far" = some (.ref a.a__law_far)
  k__law_far : PySem.W.keepIn K (.ref a.a__law_far) = true
  F__law_rooms : Fun K "_law_rooms" "_law_rooms" s__law_rooms a.a__law_rooms a.d__law_rooms
  i__law_rooms : Binds K a.d__law_rooms ["_law_purse_here", "_law_walkers"] []
  m__law_rooms : mg "_law_rooms" = some (.ref a.a__law_rooms)
  k__law_rooms : PySem.W.keepIn K (.ref a.a__law_rooms) = true
  F__law_step : Fun K "_law_step" "_law_step" s__law_step a.a__law_step a.d__law_step
  i__law_step : Binds K a.d__law_step ["_law_purse_here"] []
  m__law_step : mg "_law_step" = some (.ref a.a__law_step)
  k__law_step : PySem.W.keepIn K (.ref a.a__law_step) = true
  F__law_meetings : Fun K "_law_meetings" "_law_meetings" s__law_meetings a.a__law_meetings a.d__law_meetings
  i__law_meetings : Binds K a.d__law_meetings ["_law_purse_here", "_law_walkers", "_law_most"] []
  m__law_meetings : mg "_law_meetings" = some (.ref a.a__law_meetings)
  k__law_meetings : PySem.W.keepIn K (.ref a.a__law_meetings) = true
  F__law_book : Fun K "_law_book" "_law_book" s__law_book a.a__law_book a.d__law_book
  i__law_book : Binds K a.d__law_book ["_law_purse_here", "_law_most_walkers", "_law_most_meetings"] []
  m__law_book : mg "_law_book" = some (.ref a.a__law_book)
  k__law_book : PySem.W.keepIn K (.ref a.a__law_book) = true
  F__law_time : Fun K "_law_time" "_law_time" s__law_time a.a__law_time a.d__law_time
  i__law_time : Binds K a.d__law_time ["_law_purse_here", "_law_book_here", "_law_later"] []
  m__law_time : mg "_law_time" = some (.ref a.a__law_time)
  k__law_time : PySem.W.keepIn K (.ref a.a__law_time) = true
  F__law_letter : Fun K "_law_letter" "_law_letter" s__law_letter a.a__law_letter a.d__law_letter
  i__law_letter : Binds K a.d__law_letter ["_law_purse_here", "_law_book_here"] []
  m__law_letter : mg "_law_letter" = some (.ref a.a__law_letter)
  k__law_letter : PySem.W.keepIn K (.ref a.a__law_letter) = true
  F__law_letters : Fun K "_law_letters" "_law_letters" s__law_letters a.a__law_letters a.d__law_letters
  i__law_letters : Binds K a.d__law_letters ["_law_purse_here", "_law_book_here"] []
  m__law_letters : mg "_law_letters" = some (.ref a.a__law_letters)
  k__law_letters : PySem.W.keepIn K (.ref a.a__law_letters) = true
  F__law_whole : Fun K "_law_whole" "_law_whole" s__law_whole a.a__law_whole a.d__law_whole
  i__law_whole : Binds K a.d__law_whole ["_law_thing_here"] []
  m__law_whole : mg "_law_whole" = some (.ref a.a__law_whole)
  k__law_whole : PySem.W.keepIn K (.ref a.a__law_whole) = true
  F_is_whole : Fun K "is_whole" "is_whole" s_is_whole a.a_is_whole a.d_is_whole
  i_is_whole : Binds K a.d_is_whole ["thing"] []
  m_is_whole : mg "is_whole" = some (.ref a.a_is_whole)
  k_is_whole : PySem.W.keepIn K (.ref a.a_is_whole) = true
  F_is_within : Fun K "is_within" "is_within" s_is_within a.a_is_within a.d_is_within
  i_is_within : Binds K a.d_is_within ["thing", "least", "most"] []
  m_is_within : mg "is_within" = some (.ref a.a_is_within)
  k_is_within : PySem.W.keepIn K (.ref a.a_is_within) = true
  F_is_below : Fun K "is_below" "is_below" s_is_below a.a_is_below a.d_is_below
  i_is_below : Binds K a.d_is_below ["number", "bound"] []
  m_is_below : mg "is_below" = some (.ref a.a_is_below)
  k_is_below : PySem.W.keepIn K (.ref a.a_is_below) = true
  F_is_meeting_number : Fun K "is_meeting_number" "is_meeting_number" s_is_meeting_number a.a_is_meeting_number a.d_is_meeting_number
  i_is_meeting_number : Binds K a.d_is_meeting_number ["book", "thing"] []
  m_is_meeting_number : mg "is_meeting_number" = some (.ref a.a_is_meeting_number)
  k_is_meeting_number : PySem.W.keepIn K (.ref a.a_is_meeting_number) = true
  F_is_walker : Fun K "is_walker" "is_walker" s_is_walker a.a_is_walker a.d_is_walker
  i_is_walker : Binds K a.d_is_walker ["book", "thing"] []
  m_is_walker : mg "is_walker" = some (.ref a.a_is_walker)
  k_is_walker : PySem.W.keepIn K (.ref a.a_is_walker) = true
  F_other_at : Fun K "other_at" "other_at" s_other_at a.a_other_at a.d_other_at
  i_other_at : Binds K a.d_other_at ["book", "number", "walker"] []
  m_other_at : mg "other_at" = some (.ref a.a_other_at)
  k_other_at : PySem.W.keepIn K (.ref a.a_other_at) = true
  F_are_wholes : Fun K "are_wholes" "are_wholes" s_are_wholes a.a_are_wholes a.d_are_wholes
  i_are_wholes : Binds K a.d_are_wholes ["things"] []
  m_are_wholes : mg "are_wholes" = some (.ref a.a_are_wholes)
  k_are_wholes : PySem.W.keepIn K (.ref a.a_are_wholes) = true
  F_is_passing : Fun K "is_passing" "is_passing" s_is_passing a.a_is_passing a.d_is_passing
  i_is_passing : Binds K a.d_is_passing ["thing"] []
  m_is_passing : mg "is_passing" = some (.ref a.a_is_passing)
  k_is_passing : PySem.W.keepIn K (.ref a.a_is_passing) = true
  F_is_drop : Fun K "is_drop" "is_drop" s_is_drop a.a_is_drop a.d_is_drop
  i_is_drop : Binds K a.d_is_drop ["thing"] []
  m_is_drop : mg "is_drop" = some (.ref a.a_is_drop)
  k_is_drop : PySem.W.keepIn K (.ref a.a_is_drop) = true
  F_Trip_takes_room : Fun K "takes_room" "Trip.takes_room" s_Trip_takes_room a.a_Trip_takes_room a.d_Trip_takes_room
  i_Trip_takes_room : Binds K a.d_Trip_takes_room ["self", "letter", "walker"] []
  M_Trip_takes_room : Meth K a.c_Trip "takes_room" a.a_Trip_takes_room
  k_Trip_takes_room : PySem.W.keepIn K (.ref a.a_Trip_takes_room) = true
  F_Trip_note_arrival : Fun K "note_arrival" "Trip.note_arrival" s_Trip_note_arrival a.a_Trip_note_arrival a.d_Trip_note_arrival
  i_Trip_note_arrival : Binds K a.d_Trip_note_arrival ["self", "letter", "walker", "time"] []
  M_Trip_note_arrival : Meth K a.c_Trip "note_arrival" a.a_Trip_note_arrival
  k_Trip_note_arrival : PySem.W.keepIn K (.ref a.a_Trip_note_arrival) = true
  F_Trip___init__ : Fun K "__init__" "Trip.__init__" s_Trip___init__ a.a_Trip___init__ a.d_Trip___init__
  i_Trip___init__ : Binds K a.d_Trip___init__ ["self", "book", "letters"] []
  M_Trip___init__ : Meth K a.c_Trip "__init__" a.a_Trip___init__
  k_Trip___init__ : PySem.W.keepIn K (.ref a.a_Trip___init__) = true
  F_Trip_bag : Fun K "bag" "Trip.bag" s_Trip_bag a.a_Trip_bag a.d_Trip_bag
  i_Trip_bag : Binds K a.d_Trip_bag ["self", "walker"] []
  M_Trip_bag : Meth K a.c_Trip "bag" a.a_Trip_bag
  k_Trip_bag : PySem.W.keepIn K (.ref a.a_Trip_bag) = true
  F_Trip_done : Fun K "done" "Trip.done" s_Trip_done a.a_Trip_done a.d_Trip_done
  i_Trip_done : Binds K a.d_Trip_done ["self"] []
  M_Trip_done : Meth K a.c_Trip "done" a.a_Trip_done
  k_Trip_done : PySem.W.keepIn K (.ref a.a_Trip_done) = true
  F_Trip_need_letter : Fun K "need_letter" "Trip.need_letter" s_Trip_need_letter a.a_Trip_need_letter a.d_Trip_need_letter
  i_Trip_need_letter : Binds K a.d_Trip_need_letter ["self", "letter"] []
  M_Trip_need_letter : Meth K a.c_Trip "need_letter" a.a_Trip_need_letter
  k_Trip_need_letter : PySem.W.keepIn K (.ref a.a_Trip_need_letter) = true
  F_Trip_need_drop : Fun K "need_drop" "Trip.need_drop" s_Trip_need_drop a.a_Trip_need_drop a.d_Trip_need_drop
  i_Trip_need_drop : Binds K a.d_Trip_need_drop ["self", "letter", "walker"] []
  M_Trip_need_drop : Meth K a.c_Trip "need_drop" a.a_Trip_need_drop
  k_Trip_need_drop : PySem.W.keepIn K (.ref a.a_Trip_need_drop) = true
  F_Trip_need_passing : Fun K "need_passing" "Trip.need_passing" s_Trip_need_passing a.a_Trip_need_passing a.d_Trip_need_passing
  i_Trip_need_passing : Binds K a.d_Trip_need_passing ["self", "meeting", "letter", "giver"] []
  M_Trip_need_passing : Meth K a.c_Trip "need_passing" a.a_Trip_need_passing
  k_Trip_need_passing : PySem.W.keepIn K (.ref a.a_Trip_need_passing) = true
  F_Trip_pass_on : Fun K "pass_on" "Trip.pass_on" s_Trip_pass_on a.a_Trip_pass_on a.d_Trip_pass_on
  i_Trip_pass_on : Binds K a.d_Trip_pass_on ["self", "meeting", "letter", "giver"] []
  M_Trip_pass_on : Meth K a.c_Trip "pass_on" a.a_Trip_pass_on
  k_Trip_pass_on : PySem.W.keepIn K (.ref a.a_Trip_pass_on) = true
  F_Trip_do : Fun K "do" "Trip.do" s_Trip_do a.a_Trip_do a.d_Trip_do
  i_Trip_do : Binds K a.d_Trip_do ["self", "deed"] []
  M_Trip_do : Meth K a.c_Trip "do" a.a_Trip_do
  k_Trip_do : PySem.W.keepIn K (.ref a.a_Trip_do) = true
  F__law_any : Fun K "_law_any" "_law_any" s__law_any a.a__law_any a.d__law_any
  i__law_any : Binds K a.d__law_any ["_law_purse_here", "_law_many"] []
  m__law_any : mg "_law_any" = some (.ref a.a__law_any)
  k__law_any : PySem.W.keepIn K (.ref a.a__law_any) = true
  F__law_does : Fun K "_law_does" "_law_does" s__law_does a.a__law_does a.d__law_does
  i__law_does : Binds K a.d__law_does ["_law_trip", "_law_deed"] []
  m__law_does : mg "_law_does" = some (.ref a.a__law_does)
  k__law_does : PySem.W.keepIn K (.ref a.a__law_does) = true
  F__law_thing_here : Fun K "_law_thing_here" "_law_thing_here" s__law_thing_here a.a__law_thing_here a.d__law_thing_here
  i__law_thing_here : Binds K a.d__law_thing_here ["_law_purse_here", "_law_book_here", "_law_many"] []
  m__law_thing_here : mg "_law_thing_here" = some (.ref a.a__law_thing_here)
  k__law_thing_here : PySem.W.keepIn K (.ref a.a__law_thing_here) = true
  F__law_is_deed : Fun K "_law_is_deed" "_law_is_deed" s__law_is_deed a.a__law_is_deed a.d__law_is_deed
  i__law_is_deed : Binds K a.d__law_is_deed ["_law_thing_here_here"] []
  m__law_is_deed : mg "_law_is_deed" = some (.ref a.a__law_is_deed)
  k__law_is_deed : PySem.W.keepIn K (.ref a.a__law_is_deed) = true
  F_law : Fun K "law" "law" s_law a.a_law a.d_law
  i_law : Binds K a.d_law ["_law_script_here"] []
  m_law : mg "law" = some (.ref a.a_law)
  k_law : PySem.W.keepIn K (.ref a.a_law) = true
  b_ValueError : mg "ValueError" = none
  b_all : mg "all" = none
  b_bool : mg "bool" = none
  b_enumerate : mg "enumerate" = none
  b_int : mg "int" = none
  b_isinstance : mg "isinstance" = none
  b_len : mg "len" = none
  b_list : mg "list" = none
  b_max : mg "max" = none
  b_min : mg "min" = none
  b_range : mg "range" = none
  b_sorted : mg "sorted" = none
  b_tuple : mg "tuple" = none
  m_HasIt : mg "HasIt" = some (.ref a.c_HasIt)
  m_MeetError : mg "MeetError" = some (.ref a.c_MeetError)
  m_NoBook : mg "NoBook" = some (.ref a.c_NoBook)
  m_NoClaim : mg "NoClaim" = some (.ref a.c_NoClaim)
  m_NoDay : mg "NoDay" = some (.ref a.c_NoDay)
  m_NoDeed : mg "NoDeed" = some (.ref a.c_NoDeed)
  m_NoLetter : mg "NoLetter" = some (.ref a.c_NoLetter)
  m_NoMeeting : mg "NoMeeting" = some (.ref a.c_NoMeeting)
  m_NoName : mg "NoName" = some (.ref a.c_NoName)
  m_NoPass : mg "NoPass" = some (.ref a.c_NoPass)
  m_NoRoom : mg "NoRoom" = some (.ref a.c_NoRoom)
  m_NoRow : mg "NoRow" = some (.ref a.c_NoRow)
  m_NoRule : mg "NoRule" = some (.ref a.c_NoRule)
  m_NoText : mg "NoText" = some (.ref a.c_NoText)
  m_NoWalker : mg "NoWalker" = some (.ref a.c_NoWalker)
  m_NotThere : mg "NotThere" = some (.ref a.c_NotThere)
  m_TooMany : mg "TooMany" = some (.ref a.c_TooMany)
  m_Trip : mg "Trip" = some (.ref a.c_Trip)
  m_Twice : mg "Twice" = some (.ref a.c_Twice)
  x_NoDeed : XCls K a.c_NoDeed
  x_NoMeeting : XCls K a.c_NoMeeting
  x_NoLetter : XCls K a.c_NoLetter
  x_NoWalker : XCls K a.c_NoWalker
  x_NotThere : XCls K a.c_NotThere
  x_HasIt : XCls K a.c_HasIt
  x_NoPass : XCls K a.c_NoPass
  x_NoRoom : XCls K a.c_NoRoom
  L_Trip : Cls K a.c_Trip
  Y_Trip : L2.Mk K a.c_Trip a.a_Trip___init__
  n_Trip_book : NoAttr K a.c_Trip "book"
  n_Trip_letters : NoAttr K a.c_Trip "letters"
  n_Trip_holders : NoAttr K a.c_Trip "holders"
  n_Trip_arrivals : NoAttr K a.c_Trip "arrivals"
  n_Trip_passed : NoAttr K a.c_Trip "passed"
  n_Trip_reached : NoAttr K a.c_Trip "reached"
  n_Trip_deeds : NoAttr K a.c_Trip "deeds"
  f_xc : xcB K ⟨a.c_NoDeed, a.c_NoMeeting, a.c_NoLetter, a.c_NoWalker, a.c_NotThere, a.c_HasIt, a.c_NoPass, a.c_NoRoom⟩ a.c_MeetError [a.c_NoBook, a.c_NoRule, a.c_TooMany, a.c_NoDay, a.c_NoClaim, a.c_NoText, a.c_NoRow, a.c_NoName, a.c_Twice] = true
section
variable {P : Program} {w : World} {K : PySem.W.Frag} {mg : Str → Option Value} {base : Heap} {a : Ad}
theorem sc__law_purse : FnScope ["_law_script", "_law_k", "_law_cell", "_law_left"] ["_law_script", "_law_k"] (defScope s__law_purse) := ⟨rfl, rfl, rfl, by decide +kernel, rfl, by decide +kernel, by decide +kernel⟩
theorem ok__law_purse (T : Tx K mg a) : FnOk P w K mg base CX0 1 a.a__law_purse a.d__law_purse ["_law_script", "_law_k"] (spPurse K) := by
  refine T.F__law_purse.ok sc__law_purse (fun vs H Q E h => ?_) (fun cdv A outer s H vs Q E hr h => ?_)
  · obtain ⟨a, ns, k, rfl, _⟩ := h; rfl
  · have nd := sc__law_purse.nd
    have hu := hr.units
    obtain ⟨sa, ns, k, rfl, hS, hk, q⟩ := h
    refine ⟨_, (@bl_out _ _ _ (@bl_c _ _ _ _ _ _ (ps_set (i := 2) nd rfl (by first | exact Or.inl rfl | exact Or.inr rfl) pe_int) (@bl_c _ _ _ _ _ _ (@ps_if _ _ _ _ _ _ _ _ (@pt_cmpR _ _ _ _ _ _ _ _ op_lt (pv 1) (pe_callB (call_len_seq' rfl) (by rfl) T.b_len PySem.boot_len (@pa_out _ _ _ (@pa_c _ _ _ _ _ (pv 0) pa_n rfl))) (nomark _)) (@bl_out _ _ _ (@bl_1 _ _ _ (ps_set (i := 2) nd rfl (by first | exact Or.inl rfl | exact Or.inr rfl) (@pe_ix _ _ _ _ _ _ _ (ix_list' rfl) (pv 0) (pv 1) (fun _ _ => rfl))))) pss_nil) (@bl_c _ _ _ _ _ _ (ps_set (i := 3) nd rfl (by first | exact Or.inl rfl | exact Or.inr rfl) pe_int) (@bl_c _ _ _ _ _ _ (@ps_if _ _ _ _ _ _ _ _ (@pt_cmpR _ _ _ _ _ _ _ _ op_lt (pv 2) pe_int (nomark _)) (@bl_out _ _ _ (@bl_1 _ _ _ (ps_set (i := 3) nd rfl (by first | exact Or.inl rfl | exact Or.inr rfl) (@pe_op _ _ _ _ _ _ _ _ op_sub (@pe_un _ _ _ _ _ _ un_neg pe_int) (pv 2))))) pss_nil) (@bl_c _ _ _ _ _ _ (@ps_if _ _ _ _ _ _ _ _ (@pt_cmpR _ _ _ _ _ _ _ _ op_ge (pv 2) (@pe_op _ _ _ _ _ _ _ _ op_pow pe_int pe_int) (nomark _)) (@bl_out _ _ _ (@bl_1 _ _ _ (ps_set (i := 3) nd rfl (by first | exact Or.inl rfl | exact Or.inr rfl) (pv 2)))) pss_nil) (@bl_1 _ _ _ (@ps_ret _ _ _ _ (@pe_lst _ _ _ _ (@pa_out _ _ _ (@pa_c _ _ _ _ _ (pv 3) (@pa_c _ _ _ _ _ (@pe_op _ _ _ _ _ _ _ _ op_mod (@pe_op _ _ _ _ _ _ _ _ op_add (@pe_op _ _ _ _ _ _ _ _ op_add (@pe_op _ _ _ _ _ _ _ _ op_mul (pv 2) pe_int) (@pe_op _ _ _ _ _ _ _ _ op_mul (pv 1) pe_int)) pe_int) pe_int) (@pa_c _ _ _ _ _ pe_int pa_n rfl) rfl) rfl))))))))))), ?_⟩
    have c18 : CPow 10 18 := ⟨by decide, by decide, by decide⟩
    have s3 : 3 ≤ sizeLine := by rw [sizeLine_eq]; decide
    have fin : ∀ (x y : Int) p, H p = none → Q (.ref p) (upd H p (.lst [.int x, .int y, .int 0])) := fun x y p hp => q p _ hp ⟨x, y, 0, upd_same⟩ (same_new hp)
    have c69 : ∀ x : Int, CMul x 69 := fun x => .inr ⟨by decide, by decide⟩
    have c405 : ∀ x : Int, CMul x 40503 := fun x => .inr ⟨by decide, by decide⟩
    refine ⟨_, rfl, _, rfl, sa, _, rfl, .inl hS, _, _, rfl, rfl, _, rfl, iteN (fun σ H1 => ∃ c : Int, σ = [some (.ref sa), some (.int k), some (.int c), none] ∧ H = H1) ?_ (fun c k0 => ?_) (fun c => ⟨0, rfl, rfl⟩)⟩
    · rintro σ H1 ⟨c, rfl, rfl⟩
      refine ⟨_, rfl, _, _, rfl, rfl, _, rfl, iteN (fun σ H1 => ∃ d : Int, σ = [some (.ref sa), some (.int k), some (.int c), some (.int d)] ∧ H = H1) ?_ (fun z k0 => ?_) (fun z => ⟨0, rfl, rfl⟩)⟩
      · rintro σ H1 ⟨d, rfl, rfl⟩
        refine ⟨_, rfl, _, _, rfl, rfl, c18, _, _, rfl, rfl, _, rfl, iteN (fun σ H1 => ∃ d : Int, σ = [some (.ref sa), some (.int k), some (.int c), some (.int d)] ∧ H = H1) ?_ (fun z k0 => ⟨_, rfl, k0 _ _ ⟨c, rfl, rfl⟩⟩) (fun z => ⟨d, rfl, rfl⟩)⟩
        rintro σ H1 ⟨d, rfl, rfl⟩
        exact ⟨_, rfl, _, rfl, _, _, rfl, rfl, c69 _, _, rfl, _, _, rfl, rfl, c405 _, _, _, rfl, rfl, _, _, rfl, rfl, _, _, rfl, rfl, (by show (0 : Int) < 2147483647; decide), s3, fin _ _⟩
      · exact ⟨_, rfl, _, rfl, _, _, rfl, rfl, k0 _ _ ⟨_, rfl, rfl⟩⟩
    · have hk2 : k < ns.length := by
        have := of_decide_eq_true c
        rw [List.length_map] at this; omega
      exact ⟨_, rfl, _, rfl, sa, _, _, _, rfl, rfl, hS, atI_nat (v := V.int ns[k]) (by simp [hk2]), k0 _ _ ⟨_, rfl, rfl⟩⟩
theorem sc__law_take : FnScope ["_law_purse_here", "_law_many", "_law_digit", "_law_mixed"] ["_law_purse_here", "_law_many"] (defScope s__law_take) := ⟨rfl, rfl, rfl, by decide +kernel, rfl, by decide +kernel, by decide +kernel⟩
theorem ok__law_take (T : Tx K mg a) : FnOk P w K mg base CX0 1 a.a__law_take a.d__law_take ["_law_purse_here", "_law_many"] (spTake) := by
  refine T.F__law_take.ok sc__law_take (fun vs H Q E h => ?_) (fun cdv A outer s H vs Q E hr h => ?_)
  · obtain ⟨p, n, rfl, _⟩ := h; rfl
  · have nd := sc__law_take.nd
    have hu := hr.units
    obtain ⟨p, n, rfl, n0, n1, ⟨x, y, z, hp⟩, q⟩ := h
    refine ⟨_, (@bl_out _ _ _ (@bl_c _ _ _ _ _ _ (@ps_if _ _ _ _ _ _ _ _ (@pt_cmpR _ _ _ _ _ _ _ _ op_gt (@pe_ix _ _ _ _ _ _ _ (ix_list' rfl) (pv 0) pe_int (fun _ _ => rfl)) pe_int (nomark _)) (@bl_out _ _ _ (@bl_c _ _ _ _ _ _ (ps_set (i := 2) nd rfl (by first | exact Or.inl rfl | exact Or.inr rfl) (@pe_op _ _ _ _ _ _ _ _ op_mod (@pe_ix _ _ _ _ _ _ _ (ix_list' rfl) (pv 0) pe_int (fun _ _ => rfl)) (pv 1))) (@bl_c _ _ _ _ _ _ (ps_asg (@pe_op _ _ _ _ _ _ _ _ op_fdivB (@pe_ix _ _ _ _ _ _ _ (ix_list' rfl) (pv 0) pe_int (fun _ _ => rfl)) (pv 1)) (pg_sub (pv 0) pe_int set_list)) (@bl_1 _ _ _ (@ps_ret _ _ _ _ (pv 2)))))) pss_nil) (@bl_c _ _ _ _ _ _ (ps_augS (pv 0) pe_int (get_list rfl) pe_int ip_add set_list) (@bl_c _ _ _ _ _ _ (ps_set (i := 3) nd rfl (by first | exact Or.inl rfl | exact Or.inr rfl) (@pe_op _ _ _ _ _ _ _ _ op_mod (@pe_op _ _ _ _ _ _ _ _ op_mul (@pe_op _ _ _ _ _ _ _ _ op_add (@pe_ix _ _ _ _ _ _ _ (ix_list' rfl) (pv 0) pe_int (fun _ _ => rfl)) (@pe_op _ _ _ _ _ _ _ _ op_mul (@pe_ix _ _ _ _ _ _ _ (ix_list' rfl) (pv 0) pe_int (fun _ _ => rfl)) pe_int)) pe_int) pe_int)) (@bl_c _ _ _ _ _ _ (ps_set (i := 3) nd rfl (by first | exact Or.inl rfl | exact Or.inr rfl) (@pe_op _ _ _ _ _ _ _ _ op_mod (@pe_op _ _ _ _ _ _ _ _ op_add (@pe_op _ _ _ _ _ _ _ _ op_add (@pe_op _ _ _ _ _ _ _ _ op_mul (pv 3) (pv 3)) (@pe_op _ _ _ _ _ _ _ _ op_mul (@pe_ix _ _ _ _ _ _ _ (ix_list' rfl) (pv 0) pe_int (fun _ _ => rfl)) pe_int)) (@pe_ix _ _ _ _ _ _ _ (ix_list' rfl) (pv 0) pe_int (fun _ _ => rfl))) pe_int)) (@bl_1 _ _ _ (@ps_ret _ _ _ _ (@pe_op _ _ _ _ _ _ _ _ op_mod (@pe_op _ _ _ _ _ _ _ _ op_fdivB (@pe_op _ _ _ _ _ _ _ _ op_mod (@pe_op _ _ _ _ _ _ _ _ op_mul (pv 3) pe_int) pe_int) pe_int) (pv 1))))))))), ?_⟩
    have hS : SqL K H p _ := SqL.of hp
    have cm : ∀ x c : Int, -(2 ^ 64) < c → c < 2 ^ 64 → CMul x c := fun x c h h' => .inr ⟨h, h'⟩
    refine ⟨_, rfl, p, _, _, _, rfl, rfl, hS, rfl, _, _, rfl, rfl, _, rfl, iteD (fun h1 => ?_) fun h1 => ?_⟩
    · refine ⟨_, rfl, p, _, _, _, rfl, rfl, hS, rfl, _, rfl, _, _, rfl, rfl, n0, ?_⟩
      refine ⟨_, rfl, p, _, _, _, rfl, rfl, hS, rfl, _, rfl, _, _, rfl, rfl, ⟨n0, n1⟩, _, rfl, p, _, _, 0, rfl, rfl, hp, rfl, ?_⟩
      exact ⟨_, rfl, q _ _ (Int.emod_nonneg _ (by omega)) (Int.emod_lt_of_pos _ n0) ⟨But.set, _, _, _, upd_same⟩⟩
    · refine ⟨_, rfl, p, _, _, _, rfl, rfl, hS, rfl, _, _, rfl, rfl, p, _, _, 2, rfl, rfl, hp, rfl, ?_⟩
      have h2 : (upd H p (HO.lst ([V.int x, V.int y, V.int z].set 2 (.int (z + 1))))) p = some (.lst [V.int x, V.int y, V.int (z + 1)]) := upd_same
      have b2 : But p H (upd H p (HO.lst ([V.int x, V.int y, V.int z].set 2 (.int (z + 1))))) := But.set
      generalize upd H p (HO.lst ([V.int x, V.int y, V.int z].set 2 (.int (z + 1)))) = H2 at h2 b2 ⊢
      have hS2 : SqL K H2 p _ := SqL.of h2
      have big : (2147483647 : Int) < 2 ^ 64 := by decide
      have low : -(2 : Int) ^ 64 < 0 := by decide
      have pos : (0 : Int) < 2147483647 := by decide
      refine ⟨_, rfl, p, _, _, _, rfl, rfl, hS2, rfl, _, rfl, p, _, _, _, rfl, rfl, hS2, rfl, _, _, rfl, rfl, cm _ _ (by decide) (by decide), _, _, rfl, rfl, _, _, rfl, rfl, cm _ _ (by decide) (by decide), _, _, rfl, rfl, (by show (0 : Int) < 2147483647; decide), ?_⟩
      have m0 := Int.emod_nonneg ((y + (z + 1) * 362437) * 48271) (show (2147483647 : Int) ≠ 0 by decide)
      have m1 := Int.emod_lt_of_pos ((y + (z + 1) * 362437) * 48271) pos
      refine ⟨_, rfl, _, rfl, _, _, rfl, rfl, .inl ⟨Int.lt_of_lt_of_le low m0, Int.lt_trans m1 big⟩, _, rfl, p, _, _, _, rfl, rfl, hS2, rfl, _, _, rfl, rfl, cm _ _ (by decide) (by decide), _, _, rfl, rfl, _, rfl, p, _, _, _, rfl, rfl, hS2, rfl, _, _, rfl, rfl, _, _, rfl, rfl, (by show (0 : Int) < 2147483629; decide), ?_⟩
      refine ⟨_, rfl, _, _, rfl, rfl, cm _ _ (by decide) (by decide), _, _, rfl, rfl, (by show (0 : Int) < 2147483563; decide), _, _, rfl, rfl, ⟨by decide, by decide⟩, _, rfl, _, _, rfl, rfl, n0, ?_⟩
      exact q _ _ (Int.emod_nonneg _ (by omega)) (Int.emod_lt_of_pos _ n0) ⟨b2, _, _, _, h2⟩
theorem sc__law_far : FnScope ["_law_purse_here", "_law_high"] ["_law_purse_here"] (defScope s__law_far) := ⟨rfl, rfl, rfl, by decide +kernel, rfl, by decide +kernel, by decide +kernel⟩
theorem ok__law_far (T : Tx K mg a) : FnOk P w K mg base CX0 2 a.a__law_far a.d__law_far ["_law_purse_here"] (spFar) := by
  have G__law_take := @ok__law_take P w _ _ base _ T
  refine T.F__law_far.ok sc__law_far (fun vs H Q E h => ?_) (fun cdv A outer s H vs Q E hr h => ?_)
  · obtain ⟨p, rfl, _⟩ := h; rfl
  · have nd := sc__law_far.nd
    have hu := hr.units
    obtain ⟨p, rfl, hp, q⟩ := h
    refine ⟨_, (@bl_out _ _ _ (@bl_c _ _ _ _ _ _ (ps_set (i := 1) nd rfl (by first | exact Or.inl rfl | exact Or.inr rfl) (pe_call G__law_take (hr.mono (by decide)) rfl T.m__law_take T.k__law_take T.i__law_take .nil pass0 (@pa_out _ _ _ (@pa_c _ _ _ _ _ (pv 0) (@pa_c _ _ _ _ _ pe_int pa_n rfl) rfl)))) (@bl_1 _ _ _ (@ps_ret _ _ _ _ (@pe_op _ _ _ _ _ _ _ _ op_mod (@pe_op _ _ _ _ _ _ _ _ op_add (@pe_op _ _ _ _ _ _ _ _ op_mul (pv 1) pe_int) (pe_call G__law_take (hr.mono (by decide)) rfl T.m__law_take T.k__law_take T.i__law_take .nil pass0 (@pa_out _ _ _ (@pa_c _ _ _ _ _ (pv 0) (@pa_c _ _ _ _ _ pe_int pa_n rfl) rfl)))) (@pe_op _ _ _ _ _ _ _ _ op_add (@pe_op _ _ _ _ _ _ _ _ op_pow pe_int pe_int) pe_int)))))), ?_⟩
    refine ⟨_, rfl, p, _, rfl, by decide, by decide, hp, fun d H1 d0 d1 g1 => ⟨_, rfl, _, _, rfl, rfl, .inr ⟨by decide, by decide⟩, _, rfl, p, _, rfl, by decide, by decide, g1.2, fun e H2 e0 e1 g2 => ⟨_, _, rfl, rfl, _, _, rfl, rfl, ⟨by decide, by decide, by decide⟩, _, _, rfl, rfl, _, _, rfl, rfl, (by show (0 : Int) < 10 ^ Int.toNat 9 + 1; decide), ?_⟩⟩⟩
    have e9 : (10 : Int) ^ Int.toNat 9 + 1 = 1000000001 := by decide
    rw [e9]
    exact q _ _ (Int.emod_nonneg _ (by decide)) (Int.lt_add_one_iff.mp (Int.emod_lt_of_pos _ (by decide))) (g1.trans g2)
theorem sc__law_rooms : FnScope ["_law_purse_here", "_law_walkers", "_law_rooms_here", "_law_walker", "_law_room"] ["_law_purse_here", "_law_walkers"] (defScope s__law_rooms) := ⟨rfl, rfl, rfl, by decide +kernel, rfl, by decide +kernel, by decide +kernel⟩
theorem ok__law_rooms (T : Tx K mg a) : FnOk P w K mg base CX0 2 a.a__law_rooms a.d__law_rooms ["_law_purse_here", "_law_walkers"] (spRooms) := by
  have G__law_take := @ok__law_take P w _ _ base _ T
  refine T.F__law_rooms.ok sc__law_rooms (fun vs H Q E h => ?_) (fun cdv A outer s H vs Q E hr h => ?_)
  · obtain ⟨p, n, rfl, _⟩ := h; rfl
  · have nd := sc__law_rooms.nd
    have hu := hr.units
    obtain ⟨p, n, rfl, hn, hp, q⟩ := h
    refine ⟨_, (@bl_out _ _ _ (@bl_c _ _ _ _ _ _ (ps_set (i := 2) nd rfl (by first | exact Or.inl rfl | exact Or.inr rfl) (@pe_lst _ _ _ _ pa_nil)) (@bl_c _ _ _ _ _ _ (ps_for PassesOwn.never rfl (pi_range1 rfl T.b_range (@pa_out _ _ _ (@pa_c _ _ _ _ _ (pv 1) pa_n rfl))) (pg_name (i := 3) nd rfl (by first | exact Or.inl rfl | exact Or.inr rfl)) (@bl_out _ _ _ (@bl_c _ _ _ _ _ _ (ps_set (i := 4) nd rfl (by first | exact Or.inl rfl | exact Or.inr rfl) (@pe_op _ _ _ _ _ _ _ _ op_fdivB (pe_call G__law_take (hr.mono (by decide)) rfl T.m__law_take T.k__law_take T.i__law_take .nil pass0 (@pa_out _ _ _ (@pa_c _ _ _ _ _ (pv 0) (@pa_c _ _ _ _ _ pe_int pa_n rfl) rfl))) pe_int)) (@bl_c _ _ _ _ _ _ (@ps_if _ _ _ _ _ _ _ _ (@pt_cmpR _ _ _ _ _ _ _ _ op_eq (pv 4) pe_int (nomark _)) (@bl_out _ _ _ (@bl_1 _ _ _ (ps_set (i := 4) nd rfl (by first | exact Or.inl rfl | exact Or.inr rfl) (pe_call G__law_take (hr.mono (by decide)) rfl T.m__law_take T.k__law_take T.i__law_take .nil pass0 (@pa_out _ _ _ (@pa_c _ _ _ _ _ (pv 0) (@pa_c _ _ _ _ _ pe_int pa_n rfl) rfl)))))) pss_nil) (@bl_1 _ _ _ (ps_expr (pe_bm PySem.F.plainAttrs_list PySem.F.slot_list_append PySem.F.type_list_append mt_append (pv 2) (@pa_out _ _ _ (@pa_c _ _ _ _ _ (pv 4) pa_n rfl))))))))) (@bl_1 _ _ _ (@ps_ret _ _ _ _ (pe_callTy (call_tuple_of) (by rfl) T.b_tuple PyProof.Rows.boot_tuple (@pa_out _ _ _ (@pa_c _ _ _ _ _ (pv 2) pa_n rfl)))))))), ?_⟩
    have line : 1001 ≤ sizeLine := by rw [sizeLine_eq]; decide
    refine ⟨Nat.zero_le _, fun l hl => ?_⟩
    have npl := hp.ne hl
    refine ⟨_, rfl, _, rfl, by omega, by omega, ?_⟩
    refine for_range (lo := 0) (n := n) (fun i σ H2 => ∃ v3 v4 rs, σ = [some (.ref p), some (.int n), some (.ref l), v3, v4] ∧ H2 l = some (.lst (List.map V.int rs)) ∧ rs.length = i ∧ (∀ r ∈ rs, (0 : Int) ≤ r ∧ r ≤ 99) ∧ Go p H H2)
      ⟨_, _, [], rfl, upd_same, rfl, (fun _ z => nomatch z), (Go.refl hp).new hl⟩ ?_ ?_
    · rintro i σ H2 hi ⟨v3, v4, rs, rfl, h2, hlen, hr, go⟩
      refine ⟨_, rfl, p, _, rfl, by decide, by decide, go.2, fun d H3 d0 d1 g3 => ⟨_, _, rfl, rfl, ⟨by decide, by decide⟩, ?_⟩⟩
      refine ⟨_, rfl, rfl, _, rfl, iteN (fun σ H4 => ∃ x : Int, σ = [some (.ref p), some (.int n), some (.ref l), some (.int (0 + (i : Int))), some (.int x)] ∧ 0 ≤ x ∧ x ≤ 99 ∧ Go p H2 H4) ?_ (fun c k0 => ⟨_, rfl, p, _, rfl, by decide, by decide, g3.2, fun e H4 e0 e1 g4 => k0 _ _ ⟨e, rfl, e0, by omega, g3.trans g4⟩⟩) (fun c => ⟨_, rfl, by omega, by omega, g3⟩)⟩
      rintro σ H4 ⟨x, rfl, x0, x1, g4⟩
      have h4 := g4.1 l _ npl h2
      refine ⟨_, rfl, .inl ⟨rfl, _, SqL.of h4⟩, _, rfl, l, _, _, rfl, rfl, h4, by rw [List.length_map]; omega, _, _, rs ++ [x], rfl, by rw [upd_same, List.map_append]; rfl, by simp [hlen], fun r hr' => ?_, ?_⟩
      · rcases List.mem_append.mp hr' with h | h
        · exact hr r h
        · cases List.mem_singleton.mp h; exact ⟨x0, x1⟩
      · have g2 := go.trans g4
        refine ⟨fun b u nb e => ?_, ?_⟩
        · rw [upd_ne (ne_of_none e hl)]; exact g2.1 b u nb e
        · obtain ⟨a, b, c, e⟩ := g2.2
          exact ⟨a, b, c, by rw [upd_ne npl.symm]; exact e⟩
    · rintro σ H2 ⟨v3, v4, rs, rfl, h2, hlen, hr, go⟩
      exact ⟨_, rfl, l, _, rfl, .inl ⟨SqL.of h2, fun t ht => q t rs _ (go.new ht) upd_same hlen hr⟩⟩
theorem sc__law_step : FnScope ["_law_purse_here", "_law_way"] ["_law_purse_here"] (defScope s__law_step) := ⟨rfl, rfl, rfl, by decide +kernel, rfl, by decide +kernel, by decide +kernel⟩
theorem ok__law_step (T : Tx K mg a) : FnOk P w K mg base CX0 2 a.a__law_step a.d__law_step ["_law_purse_here"] (spStep) := by
  have G__law_take := @ok__law_take P w _ _ base _ T
  refine T.F__law_step.ok sc__law_step (fun vs H Q E h => ?_) (fun cdv A outer s H vs Q E hr h => ?_)
  · obtain ⟨p, rfl, _⟩ := h; rfl
  · have nd := sc__law_step.nd
    have hu := hr.units
    obtain ⟨p, rfl, hp, q⟩ := h
    refine ⟨_, (@bl_out _ _ _ (@bl_c _ _ _ _ _ _ (ps_set (i := 1) nd rfl (by first | exact Or.inl rfl | exact Or.inr rfl) (pe_call G__law_take (hr.mono (by decide)) rfl T.m__law_take T.k__law_take T.i__law_take .nil pass0 (@pa_out _ _ _ (@pa_c _ _ _ _ _ (pv 0) (@pa_c _ _ _ _ _ pe_int pa_n rfl) rfl)))) (@bl_c _ _ _ _ _ _ (@ps_if _ _ _ _ _ _ _ _ (@pt_cmpR _ _ _ _ _ _ _ _ op_lt (pv 1) pe_int (nomark _)) (@bl_out _ _ _ (@bl_1 _ _ _ (@ps_ret _ _ _ _ (@pe_ix _ _ _ _ _ _ _ (ix_list' rfl) (@pe_lst _ _ _ _ (@pa_out _ _ _ (@pa_c _ _ _ _ _ pe_int (@pa_c _ _ _ _ _ pe_int (@pa_c _ _ _ _ _ pe_int pa_n rfl) rfl) rfl))) (pv 1) (fun _ _ => rfl))))) pss_nil) (@bl_c _ _ _ _ _ _ (@ps_if _ _ _ _ _ _ _ _ (@pt_cmpR _ _ _ _ _ _ _ _ op_eq (pv 1) pe_int (nomark _)) (@bl_out _ _ _ (@bl_1 _ _ _ (@ps_ret _ _ _ _ (@pe_op _ _ _ _ _ _ _ _ op_add pe_int (pe_call G__law_take (hr.mono (by decide)) rfl T.m__law_take T.k__law_take T.i__law_take .nil pass0 (@pa_out _ _ _ (@pa_c _ _ _ _ _ (pv 0) (@pa_c _ _ _ _ _ pe_int pa_n rfl) rfl))))))) pss_nil) (@bl_1 _ _ _ (@ps_ret _ _ _ _ (@pe_op _ _ _ _ _ _ _ _ op_add pe_int (pe_call G__law_take (hr.mono (by decide)) rfl T.m__law_take T.k__law_take T.i__law_take .nil pass0 (@pa_out _ _ _ (@pa_c _ _ _ _ _ (pv 0) (@pa_c _ _ _ _ _ (@pe_op _ _ _ _ _ _ _ _ op_mul pe_int (@pe_op _ _ _ _ _ _ _ _ op_pow pe_int pe_int)) pa_n rfl) rfl)))))))))), ?_⟩
    have s3 : 3 ≤ sizeLine := by rw [sizeLine_eq]; decide
    refine ⟨_, rfl, p, _, rfl, by decide, by decide, hp, fun d H1 d0 d1 g1 => ⟨_, rfl, _, _, rfl, rfl, _, rfl, iteD (fun h1 => ?_) fun h1 => ?_⟩⟩
    · obtain ⟨v, hv, v0, v1⟩ : ∃ v : Int, atI [V.int 0, V.int 1, V.int 1] d = some (V.int v) ∧ 0 ≤ v ∧ v ≤ 1 := by
        obtain rfl | rfl | rfl : d = 0 ∨ d = 1 ∨ d = 2 := by omega
        · exact ⟨0, rfl, by decide, by decide⟩
        · exact ⟨1, rfl, by decide, by decide⟩
        · exact ⟨1, rfl, by decide, by decide⟩
      exact ⟨s3, fun l hl => ⟨_, rfl, l, _, _, _, rfl, rfl, SqL.of upd_same, hv, q _ _ v0 (by omega) (g1.new hl)⟩⟩
    · refine ⟨_, rfl, rfl, _, rfl, iteD (fun h2 => ?_) fun h2 => ?_⟩
      · exact ⟨_, rfl, p, _, rfl, by decide, by decide, g1.2, fun e H2 e0 e1 g2 => ⟨_, _, rfl, rfl, q _ _ (by omega) (by omega) (g1.trans g2)⟩⟩
      · have e16 : (16 : Int) * 10 ^ Int.toNat 6 = 16000000 := by decide
        refine ⟨_, rfl, _, _, rfl, rfl, ⟨by decide, by decide, by decide⟩, _, _, rfl, rfl, .inl ⟨by decide, by decide⟩, p, _, rfl, by decide, by decide, g1.2, fun e H2 e0 e1 g2 => ⟨_, _, rfl, rfl, q _ _ (by omega) (by rw [e16] at e1; omega) (g1.trans g2)⟩⟩
theorem sc__law_meetings : FnScope ["_law_purse_here", "_law_walkers", "_law_most", "_law_found", "_law_when", "_law_busy", "_law_k", "_law_one", "_law_other", "_law_gap", "_law_passed", "_law_late"] ["_law_purse_here", "_law_walkers", "_law_most"] (defScope s__law_meetings) := ⟨rfl, rfl, rfl, by decide +kernel, rfl, by decide +kernel, by decide +kernel⟩
theorem ok__law_meetings (T : Tx K mg a) : FnOk P w K mg base CX0 3 a.a__law_meetings a.d__law_meetings ["_law_purse_here", "_law_walkers", "_law_most"] (spMeetings) := by
  have G__law_take := @ok__law_take P w _ _ base _ T
  have G__law_step := @ok__law_step P w _ _ base _ T
  refine T.F__law_meetings.ok sc__law_meetings (fun vs H Q E h => ?_) (fun cdv A outer s H vs Q E hr h => ?_)
  · obtain ⟨p, w, n, rfl, _⟩ := h; rfl
  · have nd := sc__law_meetings.nd
    have hu := hr.units
    obtain ⟨p, w, n, rfl, hn, w9, hw, hp, q⟩ := h
    refine ⟨_, (@bl_out _ _ _ (@bl_c _ _ _ _ _ _ (ps_set (i := 3) nd rfl (by first | exact Or.inl rfl | exact Or.inr rfl) (@pe_lst _ _ _ _ pa_nil)) (@bl_c _ _ _ _ _ _ (ps_set (i := 4) nd rfl (by first | exact Or.inl rfl | exact Or.inr rfl) (@pe_op _ _ _ _ _ _ _ _ op_add pe_int (@pe_op _ _ _ _ _ _ _ _ op_mul (@pe_op _ _ _ _ _ _ _ _ op_fdivB (pe_call G__law_take (hr.mono (by decide)) rfl T.m__law_take T.k__law_take T.i__law_take .nil pass0 (@pa_out _ _ _ (@pa_c _ _ _ _ _ (pv 0) (@pa_c _ _ _ _ _ pe_int pa_n rfl) rfl))) pe_int) (pe_call G__law_take (hr.mono (by decide)) rfl T.m__law_take T.k__law_take T.i__law_take .nil pass0 (@pa_out _ _ _ (@pa_c _ _ _ _ _ (pv 0) (@pa_c _ _ _ _ _ (@pe_op _ _ _ _ _ _ _ _ op_pow pe_int pe_int) pa_n rfl) rfl)))))) (@bl_c _ _ _ _ _ _ (ps_set (i := 5) nd rfl (by first | exact Or.inl rfl | exact Or.inr rfl) (@pe_lst _ _ _ _ pa_nil)) (@bl_c _ _ _ _ _ _ (ps_for PassesOwn.never rfl (pi_range1 rfl T.b_range (@pa_out _ _ _ (@pa_c _ _ _ _ _ (pv 2) pa_n rfl))) (pg_name (i := 6) nd rfl (by first | exact Or.inl rfl | exact Or.inr rfl)) (@bl_out _ _ _ (@bl_c _ _ _ _ _ _ (ps_set (i := 7) nd rfl (by first | exact Or.inl rfl | exact Or.inr rfl) (pe_call G__law_take (hr.mono (by decide)) rfl T.m__law_take T.k__law_take T.i__law_take .nil pass0 (@pa_out _ _ _ (@pa_c _ _ _ _ _ (pv 0) (@pa_c _ _ _ _ _ (pv 1) pa_n rfl) rfl)))) (@bl_c _ _ _ _ _ _ (ps_set (i := 8) nd rfl (by first | exact Or.inl rfl | exact Or.inr rfl) (@pe_op _ _ _ _ _ _ _ _ op_mod (@pe_op _ _ _ _ _ _ _ _ op_add (@pe_op _ _ _ _ _ _ _ _ op_add (pv 7) pe_int) (pe_call G__law_take (hr.mono (by decide)) rfl T.m__law_take T.k__law_take T.i__law_take .nil pass0 (@pa_out _ _ _ (@pa_c _ _ _ _ _ (pv 0) (@pa_c _ _ _ _ _ (@pe_op _ _ _ _ _ _ _ _ op_sub (pv 1) pe_int) pa_n rfl) rfl)))) (pv 1))) (@bl_c _ _ _ _ _ _ (ps_set (i := 9) nd rfl (by first | exact Or.inl rfl | exact Or.inr rfl) (pe_call G__law_step (hr.mono (by decide)) rfl T.m__law_step T.k__law_step T.i__law_step .nil pass0 (@pa_out _ _ _ (@pa_c _ _ _ _ _ (pv 0) pa_n rfl)))) (@bl_c _ _ _ _ _ _ (@ps_if _ _ _ _ _ _ _ _ (@PW.pt _ _ _ (@pw_or _ _ _ _ _ _ _ (@pt_cmpR _ _ _ _ _ _ _ _ (op_in_seq' rfl) (pv 7) (pv 5) rfl) (@pw_or1 _ _ _ _ (@pt_cmpR _ _ _ _ _ _ _ _ (op_in_seq' rfl) (pv 8) (pv 5) rfl)))) (@bl_out _ _ _ (@bl_1 _ _ _ (ps_set (i := 9) nd rfl (by first | exact Or.inl rfl | exact Or.inr rfl) (pe_callB (call_max2 rfl) (by rfl) T.b_max PyProof.Rows.boot_max (@pa_out _ _ _ (@pa_c _ _ _ _ _ pe_int (@pa_c _ _ _ _ _ (pv 9) pa_n rfl) rfl)))))) pss_nil) (@bl_c _ _ _ _ _ _ (@ps_if _ _ _ _ _ _ _ _ (@pt_cmpR _ _ _ _ _ _ _ _ op_gt (pv 9) pe_int (nomark _)) (@bl_out _ _ _ (@bl_1 _ _ _ (ps_set (i := 5) nd rfl (by first | exact Or.inl rfl | exact Or.inr rfl) (@pe_lst _ _ _ _ pa_nil)))) pss_nil) (@bl_c _ _ _ _ _ _ (ps_set (i := 4) nd rfl (by first | exact Or.inl rfl | exact Or.inr rfl) (@pe_op _ _ _ _ _ _ _ _ op_add (pv 4) (pv 9))) (@bl_c _ _ _ _ _ _ (ps_set (i := 5) nd rfl (by first | exact Or.inl rfl | exact Or.inr rfl) (@pe_op _ _ _ _ _ _ _ _ op_cat (pv 5) (@pe_lst _ _ _ _ (@pa_out _ _ _ (@pa_c _ _ _ _ _ (pv 7) (@pa_c _ _ _ _ _ (pv 8) pa_n rfl) rfl))))) (@bl_c _ _ _ _ _ _ (ps_set (i := 10) nd rfl (by first | exact Or.inl rfl | exact Or.inr rfl) (@pe_op _ _ _ _ _ _ _ _ op_add pe_int (@pe_op _ _ _ _ _ _ _ _ op_fdivB (pe_call G__law_take (hr.mono (by decide)) rfl T.m__law_take T.k__law_take T.i__law_take .nil pass0 (@pa_out _ _ _ (@pa_c _ _ _ _ _ (pv 0) (@pa_c _ _ _ _ _ pe_int pa_n rfl) rfl))) pe_int))) (@bl_c _ _ _ _ _ _ (@ps_if _ _ _ _ _ _ _ _ (@pt_cmpR _ _ _ _ _ _ _ _ op_eq (pe_call G__law_take (hr.mono (by decide)) rfl T.m__law_take T.k__law_take T.i__law_take .nil pass0 (@pa_out _ _ _ (@pa_c _ _ _ _ _ (pv 0) (@pa_c _ _ _ _ _ pe_int pa_n rfl) rfl))) pe_int (nomark _)) (@bl_out _ _ _ (@bl_1 _ _ _ (ps_set (i := 10) nd rfl (by first | exact Or.inl rfl | exact Or.inr rfl) (@pe_op _ _ _ _ _ _ _ _ op_add pe_int (pe_call G__law_take (hr.mono (by decide)) rfl T.m__law_take T.k__law_take T.i__law_take .nil pass0 (@pa_out _ _ _ (@pa_c _ _ _ _ _ (pv 0) (@pa_c _ _ _ _ _ pe_int pa_n rfl) rfl))))))) pss_nil) (@bl_1 _ _ _ (ps_expr (pe_bm PySem.F.plainAttrs_list PySem.F.slot_list_append PySem.F.type_list_append mt_append (pv 3) (@pa_out _ _ _ (@pa_c _ _ _ _ _ (@pe_tup _ _ _ _ _ (@pa_out _ _ _ (@pa_c _ _ _ _ _ (pv 4) (@pa_c _ _ _ _ _ (pe_callB (call_min2 rfl) (by rfl) T.b_min PyProof.Rows.boot_min (@pa_out _ _ _ (@pa_c _ _ _ _ _ (pv 7) (@pa_c _ _ _ _ _ (pv 8) pa_n rfl) rfl))) (@pa_c _ _ _ _ _ (pe_callB (call_max2 rfl) (by rfl) T.b_max PyProof.Rows.boot_max (@pa_out _ _ _ (@pa_c _ _ _ _ _ (pv 7) (@pa_c _ _ _ _ _ (pv 8) pa_n rfl) rfl))) (@pa_c _ _ _ _ _ (pv 10) pa_n rfl) rfl) rfl) rfl))) pa_n rfl)))))))))))))))) (@bl_c _ _ _ _ _ _ (ps_set (i := 11) nd rfl (by first | exact Or.inl rfl | exact Or.inr rfl) pe_int) (@bl_c _ _ _ _ _ _ (@ps_if _ _ _ _ _ _ _ _ (@PW.pt _ _ _ (@pw_and _ _ _ _ _ _ _ (@pt_cmpR _ _ _ _ _ _ _ _ op_eq (pe_call G__law_take (hr.mono (by decide)) rfl T.m__law_take T.k__law_take T.i__law_take .nil pass0 (@pa_out _ _ _ (@pa_c _ _ _ _ _ (pv 0) (@pa_c _ _ _ _ _ pe_int pa_n rfl) rfl))) pe_int (nomark _)) (@pw_and1 _ _ _ _ (@pt_cmpR _ _ _ _ _ _ _ _ (op_neNil hu) (pv 3) (@pe_lst _ _ _ _ pa_nil) (nomark _))))) (@bl_out _ _ _ (@bl_1 _ _ _ (ps_set (i := 11) nd rfl (by first | exact Or.inl rfl | exact Or.inr rfl) (@pe_op _ _ _ _ _ _ _ _ op_sub (@pe_op _ _ _ _ _ _ _ _ op_pow pe_int pe_int) (pv 4))))) pss_nil) (@bl_1 _ _ _ (@ps_ret _ _ _ _ (pe_callTy (call_tuple_of) (by rfl) T.b_tuple PyProof.Rows.boot_tuple (@pa_out _ _ _ (@pa_c _ _ _ _ _ (pe_comp (own := ["_law_then", "_law_low", "_law_high", "_law_room"]) (caps := [11]) rfl (show CompScope ["_law_then", "_law_low", "_law_high", "_law_room"] [11] ["_law_purse_here", "_law_walkers", "_law_most", "_law_found", "_law_when", "_law_busy", "_law_k", "_law_one", "_law_other", "_law_gap", "_law_passed", "_law_late"] (defScope s__law_meetings) _ from ⟨rfl, by decide +kernel, by decide +kernel, by decide +kernel, by decide +kernel⟩) (@pi_list' _ _ _ _ _ rfl (pe_callB (call_sortT) (by rfl) T.b_sorted PyProof.Rows.boot_sorted (@pa_out _ _ _ (@pa_c _ _ _ _ _ (pv 3) pa_n rfl)))) (fun _ _ _ _ => (pg_tup' (n := 4) rfl rfl (pgs_cons (pg_name (i := 0) (show List.Nodup (["_law_then", "_law_low", "_law_high", "_law_room", "_law_late"] : List Str) from by decide +kernel) rfl (by first | exact Or.inl rfl | exact Or.inr rfl)) (pgs_cons (pg_name (i := 1) (show List.Nodup (["_law_then", "_law_low", "_law_high", "_law_room", "_law_late"] : List Str) from by decide +kernel) rfl (by first | exact Or.inl rfl | exact Or.inr rfl)) (pgs_cons (pg_name (i := 2) (show List.Nodup (["_law_then", "_law_low", "_law_high", "_law_room", "_law_late"] : List Str) from by decide +kernel) rfl (by first | exact Or.inl rfl | exact Or.inr rfl)) (pgs_cons (pg_name (i := 3) (show List.Nodup (["_law_then", "_law_low", "_law_high", "_law_room", "_law_late"] : List Str) from by decide +kernel) rfl (by first | exact Or.inl rfl | exact Or.inr rfl)) pgs_nil)))))) (fun _ _ _ _ => pts_nil) (fun _ _ _ _ => (@pe_tup _ _ _ _ _ (@pa_out _ _ _ (@pa_c _ _ _ _ _ (pv 1) (@pa_c _ _ _ _ _ (pv 2) (@pa_c _ _ _ _ _ (@pe_op _ _ _ _ _ _ _ _ op_add (pv 0) (pv 4)) (@pa_c _ _ _ _ _ (pv 3) pa_n rfl) rfl) rfl) rfl))))) pa_n rfl)))))))))))), ?_⟩
    have line : 1001 ≤ sizeLine := by rw [sizeLine_eq]; decide
    have c7 : CPow 10 7 := ⟨by decide, by decide, by decide⟩
    have e7 : (10 : Int) ^ Int.toNat 7 = 10000000 := by decide
    have e64 : (2 : Int) ^ 64 > 1000 := by decide
    have e200 : (2 : Int) ^ 200 > 1000 := by decide
    refine ⟨Nat.zero_le _, fun lf hlf => ?_⟩
    have npf := hp.ne hlf
    have hp1 : Purse (upd H lf (.lst [])) p := hp.new hlf
    refine ⟨_, rfl, p, _, rfl, by decide, by decide, hp1, fun d H1 d0 d1 g1 => ⟨_, _, rfl, rfl, ⟨by decide, by decide⟩, _, rfl, _, _, rfl, rfl, c7, ?_⟩⟩
    refine ⟨p, _, rfl, by decide, by decide, g1.2, fun d2 H2 d20 d21 g2 => ⟨_, _, rfl, rfl, .inl ⟨by omega, by omega⟩, _, _, rfl, rfl, ?_⟩⟩
    rw [e7] at d21
    refine ⟨Nat.zero_le _, fun lb hlb => ?_⟩
    have fr2 := g1.trans g2
    have hlf2 : H2 lf = some (.lst []) := fr2.1 lf _ npf upd_same
    have go0 : Go p H H2 := ((Go.refl hp).new hlf).trans fr2
    refine ⟨_, rfl, _, rfl, by omega, by omega, ?_⟩
    have wh0 : 1 ≤ 1 + d / 2 * d2 ∧ 1 + d / 2 * d2 ≤ 10000000 := by
      obtain h | h : d / 2 = 0 ∨ d / 2 = 1 := by omega
      · rw [h]; omega
      · rw [h]; omega
    refine for_range (lo := 0) (n := n) (PvM p lf w n H)
      ⟨_, _, _, _, _, _, lb, [], [], rfl, by rw [upd_ne (ne_of_none hlf2 hlb)]; exact hlf2, upd_same, (ne_of_none hlf2 hlb).symm, go0.2.ne hlb, (fun _ z => nomatch z), ⟨(fun _ z => nomatch z), .nil, (fun _ z => nomatch z)⟩, rfl, by simp, wh0.1, (by have := wh0.2; simpa using this), go0.new hlb⟩ ?_ ?_
    · rintro i σ H3 hi ⟨v6, v7, v8, v9, v10, wh, lb, bs, fs, rfl, h3f, h3b, nbf, nbp, h3r, F, lenf, lenb, wh1, wh2, go⟩
      have w2 : 2 ≤ w := by omega
      refine ⟨_, rfl, _, rfl, p, w, rfl, by omega, by omega, go.2, fun one H4 o0 o1 g4 => ?_⟩
      refine ⟨_, rfl, _, _, rfl, rfl, _, rfl, _, rfl, _, _, rfl, rfl, p, _, rfl, by omega, by omega, g4.2, fun x H5 x0 x1 g5 => ⟨_, _, rfl, rfl, _, rfl, _, _, rfl, rfl, by omega, ?_⟩⟩
      have ot := oth_ok o0 o1 x0 x1
      refine ⟨_, rfl, p, rfl, g5.2, fun gap H6 gap0 gap1 g6 => ?_⟩
      have g46 := g4.trans (g5.trans g6)
      have hb6 := g46.1 lb _ nbp h3b
      have hf6 := g46.1 lf _ npf h3f
      refine ⟨_, rfl, _, rfl, lb, _, rfl, .inl (SqL.of hb6), rfl, flat_ints bs, _, rfl, iteO (fun σ H7 => ∃ gp : Int, σ = [some (.ref p), some (.int w), some (.int n), some (.ref lf), some (.int wh), some (.ref lb), some (.int (0 + (i : Int))), some (.int one), some (.int ((one + 1 + x) % w)), some (.int gp), v10, none] ∧ H6 = H7 ∧ 0 ≤ gp ∧ gp ≤ 16000000 ∧ (gp = 0 → one ∉ bs ∧ (one + 1 + x) % w ∉ bs)) ?_ (fun c1 k0 => ?_) (fun c1 k0 => ⟨_, rfl, _, rfl, lb, _, rfl, .inl (SqL.of hb6), rfl, flat_ints bs, _, rfl, iteB (fun c2 => ?_) (fun c2 => ?_)⟩)⟩
      rotate_left
      · exact ⟨_, rfl, _, _, rfl, k0 _ _ ⟨_, rfl, rfl, by split <;> omega, by split <;> omega, fun z => by split at z <;> omega⟩⟩
      · exact ⟨_, rfl, _, _, rfl, k0 _ _ ⟨_, rfl, rfl, by split <;> omega, by split <;> omega, fun z => by split at z <;> omega⟩⟩
      · have c1' : one ∉ bs := of_decide_eq_false (inV_ints.symm.trans c1)
        have c2' : (one + 1 + x) % w ∉ bs := of_decide_eq_false (inV_ints.symm.trans c2)
        exact k0 _ _ ⟨gap, rfl, rfl, by omega, by omega, fun _ => ⟨c1', c2'⟩⟩
      rintro σ H7 ⟨gp, rfl, rfl, gp0, gp1, hg⟩
      refine ⟨_, rfl, _, _, rfl, rfl, _, rfl, iteN (fun σ H7 => ∃ ly bz, σ = [some (.ref p), some (.int w), some (.int n), some (.ref lf), some (.int wh), some (.ref ly), some (.int (0 + (i : Int))), some (.int one), some (.int ((one + 1 + x) % w)), some (.int gp), v10, none] ∧ Go p H3 H7 ∧ H7 ly = some (.lst (List.map V.int bz)) ∧ ly ≠ p ∧ bz.length ≤ 2 * i ∧ ∀ z ∈ bs, gp = 0 → z ∈ bz) ?_ (fun c3 k0 => ⟨Nat.zero_le _, fun ln hln => k0 _ _ ⟨ln, [], rfl, g46.new hln, upd_same, g46.2.ne hln, Nat.zero_le _, fun _ _ z => by have := of_decide_eq_true c3; omega⟩⟩) (fun c3 => ⟨lb, bs, rfl, g46, hb6, nbp, lenb, fun _ z _ => z⟩)⟩
      rintro σ H7 ⟨ly, bz, rfl, gy, hyb, nyp, leny, hb0⟩
      have h3f' := gy.1 lf _ npf h3f
      refine ⟨_, rfl, _, rfl, _, _, rfl, rfl, ?_⟩
      refine ⟨_, rfl, _, rfl, _, rfl, by show 2 ≤ sizeLine; omega, fun l2 hl2 => ?_⟩
      have g2' := gy.new (o := HO.lst [V.int one, V.int ((one + 1 + x) % w)]) hl2
      have hyb2 := same_new (o := HO.lst [V.int one, V.int ((one + 1 + x) % w)]) hl2 _ _ hyb
      have h22 : (upd H7 l2 (HO.lst [V.int one, V.int ((one + 1 + x) % w)])) l2 = some (.lst [V.int one, V.int ((one + 1 + x) % w)]) := upd_same
      generalize upd H7 l2 (HO.lst [V.int one, V.int ((one + 1 + x) % w)]) = H8 at g2' hyb2 h22 ⊢
      refine ⟨ly, l2, _, _, rfl, rfl, hyb2, h22, (by simp only [List.length_map, List.length_cons, List.length_nil]; omega), fun l3 hl3 => ?_⟩
      have n3p : l3 ≠ p := g2'.2.ne hl3
      have n3f : l3 ≠ lf := (ne_of_none (g2'.1 lf _ npf h3f) hl3).symm
      have g3' := g2'.new (o := HO.lst (List.map V.int bz ++ [V.int one, V.int ((one + 1 + x) % w)])) hl3
      have h3b' : (upd H8 l3 (HO.lst (List.map V.int bz ++ [V.int one, V.int ((one + 1 + x) % w)]))) l3 = some (.lst (List.map V.int (bz ++ [one, (one + 1 + x) % w]))) := by rw [upd_same, List.map_append]; rfl
      generalize upd H8 l3 (HO.lst (List.map V.int bz ++ [V.int one, V.int ((one + 1 + x) % w)])) = H9 at g3' h3b' ⊢
      refine ⟨_, rfl, p, _, rfl, by decide, by decide, g3'.2, fun d4 H10 d40 d41 g10 => ⟨_, _, rfl, rfl, ⟨by decide, by decide⟩, _, _, rfl, rfl, ?_⟩⟩
      refine ⟨_, rfl, p, _, rfl, by decide, by decide, g10.2, fun d5 H11 d50 d51 g11 => ⟨rfl, _, rfl, iteN (fun σ H12 => ∃ mm : Int, σ = [some (.ref p), some (.int w), some (.int n), some (.ref lf), some (.int (wh + gp)), some (.ref l3), some (.int (0 + (i : Int))), some (.int one), some (.int ((one + 1 + x) % w)), some (.int gp), some (.int mm), none] ∧ 1 ≤ mm ∧ mm ≤ 99 ∧ Go p H9 H12) ?_ (fun c5 k0 => ⟨_, rfl, p, _, rfl, by decide, by decide, g11.2, fun d6 H12 d60 d61 g12 => ⟨_, _, rfl, rfl, k0 _ _ ⟨_, rfl, by omega, by omega, (g10.trans g11).trans g12⟩⟩⟩) (fun c5 => ⟨_, rfl, by omega, by omega, g10.trans g11⟩)⟩⟩
      rintro σ H12 ⟨mm, rfl, mm0, mm1, g12⟩
      have gall := g3'.trans g12
      have hz := gall.1 lf _ npf h3f
      refine ⟨_, rfl, .inl ⟨rfl, _, SqL.of hz⟩, _, rfl, _, rfl, _, rfl, _, _, rfl, _, rfl, _, rfl, _, _, rfl, _, rfl, by show 4 ≤ sizeLine; omega, fun t ht => ⟨lf, _, _, rfl, rfl, (by rw [upd_ne (ne_of_none hz ht)]; exact hz), (by rw [List.length_map]; omega), ?_⟩⟩
      exact PvM.step npf hlf F lenf (bs' := bz ++ [one, (one + 1 + x) % w]) (by simp only [List.length_append, List.length_cons, List.length_nil]; omega) wh1 wh2 hz (g12.1 l3 _ n3p h3b') n3f n3p (fun a ha => gall.tups go.2 _ _ (h3r a ha)) (go.trans gall) ht gp0 gp1 o0 o1 ot.1 ot.2.1 ot.2.2 mm0 mm1 hg (fun z hz1 hz2 => List.mem_append_left _ (hb0 z hz1 hz2)) (by simp) (by simp)
    · rintro σ H3 ⟨v6, v7, v8, v9, v10, wh, lb, bs, fs, rfl, h3f, h3b, nbf, nbp, h3r, F, lenf, lenb, wh1, wh2, go⟩
      have c9 : CPow 10 9 := ⟨by decide, by decide, by decide⟩
      have e9 : (10 : Int) ^ Int.toNat 9 = 1000000000 := by decide
      refine ⟨_, rfl, p, _, rfl, by decide, by decide, go.2, fun d8 H4 _ _ g4 => ⟨rfl, _, rfl, iteA (fun σ H5 => ∃ late : Int, (∃ v6 v7 v8 v9 v10, σ = [some (.ref p), some (.int w), some (.int n), some (.ref lf), some (.int wh), some (.ref lb), v6, v7, v8, v9, v10, some (.int late)]) ∧ Go p H3 H5 ∧ 0 ≤ late ∧ (fs ≠ [] → wh + late ≤ 1000000000)) ?_ (fun c k0 => ?_) (fun c => ⟨0, ⟨_, _, _, _, _, rfl⟩, g4, Int.le_refl _, fun _ => by omega⟩)⟩⟩
      rotate_left
      · have h4f := g4.1 lf _ npf h3f
        refine ⟨_, rfl, Nat.zero_le _, fun l4 hl4 => ⟨lf, l4, _, rfl, rfl, SqL.of (by rw [upd_ne (ne_of_none h4f hl4)]; exact h4f), SqL.of upd_same, _, rfl, iteB (fun c2 => ?_) (fun c2 => ?_)⟩⟩
        · exact ⟨_, _, rfl, rfl, c9, _, rfl, _, _, rfl, rfl, k0 _ _ ⟨_, ⟨_, _, _, _, _, rfl⟩, g4.new hl4, by rw [e9]; omega, fun _ => by rw [e9]; omega⟩⟩
        · exact k0 _ _ ⟨0, ⟨_, _, _, _, _, rfl⟩, g4.new hl4, Int.le_refl _, fun _ => by omega⟩
      rintro σ Hz ⟨late, ⟨v6', v7', v8', v9', v10', rfl⟩, gz, L0, L1⟩
      have hz := gz.1 lf _ npf h3f
      refine ⟨_, rfl, lf, fs.map (fun a => (a.1, a.2.row)), rfl, ?_, (by rw [List.length_map]; omega), (fun a ha => ?_), fun D qs hD pq sq => ?_⟩
      · rw [List.map_map]; exact SqL.of hz
      · obtain ⟨b, hb, rfl⟩ := List.mem_map.mp ha
        exact ⟨gz.tups go.2 _ _ (h3r b hb), by intro z; cases z⟩
      obtain ⟨rs, prs, srs, rfl⟩ := rows_back pq sq
      refine ⟨D, rfl, ⟨_, SqL.of upd_same⟩, ?_⟩
      have lrs : rs.length = n := by rw [prs.length_eq, lenf]
      have hDl : (upd Hz D (HO.lst (List.map (fun a => V.ref a.1) (List.map (fun a : Addr × M4 => (a.1, a.2.row)) rs)))) D = some (.lst (rs.map fun a => V.ref a.1)) := by rw [upd_same, List.map_map]; rfl
      have rD := fun a (ha : a ∈ rs) => (Tups.new (o := HO.lst (List.map (fun a => V.ref a.1) (List.map (fun a : Addr × M4 => (a.1, a.2.row)) rs))) hD) _ _ (gz.tups go.2 _ _ (h3r a (prs.mem_iff.mp ha)))
      have gD := (go.trans gz).new (o := HO.lst (List.map (fun a => V.ref a.1) (List.map (fun a : Addr × M4 => (a.1, a.2.row)) rs))) hD
      refine comp_list (K := K) (a := D) (xs := rs.map fun a => V.ref a.1) (fun i τ acc H5 => ∃ ps : List (Addr × M4), (∃ t0 t1 t2 t3, τ = [t0, t1, t2, t3, some (.int late)]) ∧ acc = (ps.map fun a => V.ref a.1) ∧ (ps.map (·.2)) = ((rs.take i).map fun a => a.2.late late) ∧ RowsAt H5 ps ∧ Same (upd Hz D (HO.lst (List.map (fun a => V.ref a.1) (List.map (fun a : Addr × M4 => (a.1, a.2.row)) rs)))) H5)
        ?_ (by rw [List.length_map]; omega) ?_ ?_ ?_
      · exact ⟨[], ⟨_, _, _, _, rfl⟩, rfl, rfl, (fun _ z => nomatch z), Same.refl _⟩
      · rintro i τ acc H6 ⟨ps, ⟨t0, t1, t2, t3, rfl⟩, rfl, eps, rws, sm⟩
        have := congrArg List.length eps
        rw [List.length_map, List.length_map, List.length_take] at this
        exact ⟨by rw [List.length_map]; omega, sm.seq (SqL.of hDl)⟩
      · rintro i x τ acc H5 C hx ⟨ps, ⟨t0, t1, t2, t3, rfl⟩, rfl, eps, rws, sm⟩ hC
        obtain ⟨r, hr, rfl⟩ := map_get hx
        have hrow := sm _ _ (rD r (List.mem_of_getElem? hr))
        refine ⟨r.1, _, rfl, SqT.of hrow, rfl, _, _, rfl, _, _, rfl, _, _, rfl, _, _, rfl, rfl, _, rfl, _, rfl, _, rfl, _, rfl, _, _, rfl, rfl, _, rfl, by show 4 ≤ sizeLine; omega, fun t ht => hC _ _ _ ?_⟩
        refine ⟨ps ++ [(t, r.2.late late)], ⟨_, _, _, _, rfl⟩, by rw [List.map_append]; rfl, by rw [List.map_append, take_snoc hr, List.map_append, eps]; rfl, fun a ha => ?_, sm.trans (same_new ht)⟩
        rcases List.mem_append.mp ha with h | h
        · exact same_new ht _ _ (rws a h)
        · cases List.mem_singleton.mp h
          exact upd_same
      · rintro τ acc H6 ⟨ps, ⟨t0, t1, t2, t3, rfl⟩, rfl, eps, rws, sm⟩ lt hlt
        refine ⟨lt, _, rfl, .inl ⟨SqL.of upd_same, fun t ht => q t ps _ (((gD.same sm).new hlt).new ht) upd_same ((rws.tups (Tups.new hlt)).tups (Tups.new ht)) ?_ ?_⟩⟩
        · rw [eps, List.length_map, List.take_length]
          exact F.good (by omega) L0 L1 prs srs
        · have := congrArg List.length eps
          rw [List.length_map, List.length_map, List.length_map, List.take_length] at this
          omega
theorem sc__law_book : FnScope ["_law_purse_here", "_law_most_walkers", "_law_most_meetings", "_law_walkers", "_law_most"] ["_law_purse_here", "_law_most_walkers", "_law_most_meetings"] (defScope s__law_book) := ⟨rfl, rfl, rfl, by decide +kernel, rfl, by decide +kernel, by decide +kernel⟩
theorem ok__law_book (T : Tx K mg a) : FnOk P w K mg base CX0 4 a.a__law_book a.d__law_book ["_law_purse_here", "_law_most_walkers", "_law_most_meetings"] (spBook) := by
  have G__law_take := @ok__law_take P w _ _ base _ T
  have G__law_rooms := @ok__law_rooms P w _ _ base _ T
  have G__law_meetings := @ok__law_meetings P w _ _ base _ T
  refine T.F__law_book.ok sc__law_book (fun vs H Q E h => ?_) (fun cdv A outer s H vs Q E hr h => ?_)
  · obtain ⟨p, a, n, rfl, _⟩ := h; rfl
  · have nd := sc__law_book.nd
    have hu := hr.units
    obtain ⟨p, aw, n, rfl, a1, a2, hn, hp, q⟩ := h
    refine ⟨_, (@bl_out _ _ _ (@bl_c _ _ _ _ _ _ (ps_set (i := 3) nd rfl (by first | exact Or.inl rfl | exact Or.inr rfl) (@pe_op _ _ _ _ _ _ _ _ op_add pe_int (pe_call G__law_take (hr.mono (by decide)) rfl T.m__law_take T.k__law_take T.i__law_take .nil pass0 (@pa_out _ _ _ (@pa_c _ _ _ _ _ (pv 0) (@pa_c _ _ _ _ _ (pv 1) pa_n rfl) rfl))))) (@bl_c _ _ _ _ _ _ (ps_set (i := 4) nd rfl (by first | exact Or.inl rfl | exact Or.inr rfl) (pe_callB (call_min2 rfl) (by rfl) T.b_min PyProof.Rows.boot_min (@pa_out _ _ _ (@pa_c _ _ _ _ _ (pv 2) (@pa_c _ _ _ _ _ (pe_call G__law_take (hr.mono (by decide)) rfl T.m__law_take T.k__law_take T.i__law_take .nil pass0 (@pa_out _ _ _ (@pa_c _ _ _ _ _ (pv 0) (@pa_c _ _ _ _ _ (@pe_op _ _ _ _ _ _ _ _ op_add (pv 2) pe_int) pa_n rfl) rfl))) pa_n rfl) rfl)))) (@bl_c _ _ _ _ _ _ (@ps_if _ _ _ _ _ _ _ _ (@pt_cmpR _ _ _ _ _ _ _ _ op_eq (pv 3) pe_int (nomark _)) (@bl_out _ _ _ (@bl_1 _ _ _ (ps_set (i := 4) nd rfl (by first | exact Or.inl rfl | exact Or.inr rfl) pe_int))) pss_nil) (@bl_1 _ _ _ (@ps_ret _ _ _ _ (@pe_tup _ _ _ _ _ (@pa_out _ _ _ (@pa_c _ _ _ _ _ (pe_call G__law_rooms (hr.mono (by decide)) rfl T.m__law_rooms T.k__law_rooms T.i__law_rooms .nil pass0 (@pa_out _ _ _ (@pa_c _ _ _ _ _ (pv 0) (@pa_c _ _ _ _ _ (pv 3) pa_n rfl) rfl))) (@pa_c _ _ _ _ _ (pe_call G__law_meetings (hr.mono (by decide)) rfl T.m__law_meetings T.k__law_meetings T.i__law_meetings .nil pass0 (@pa_out _ _ _ (@pa_c _ _ _ _ _ (pv 0) (@pa_c _ _ _ _ _ (pv 3) (@pa_c _ _ _ _ _ (pv 4) pa_n rfl) rfl) rfl))) pa_n rfl) rfl))))))))), ?_⟩
    have line : 1001 ≤ sizeLine := by rw [sizeLine_eq]; decide
    have e200 : (2 : Int) ^ 200 > 1000 := by decide
    refine ⟨_, rfl, _, rfl, p, aw, rfl, by omega, by omega, hp, fun d H1 d0 d1 g1 => ⟨_, _, rfl, rfl, ?_⟩⟩
    obtain ⟨k, rfl⟩ := Int.eq_ofNat_of_zero_le d0
    refine ⟨_, rfl, _, rfl, _, rfl, _, _, rfl, rfl, p, _, rfl, by omega, by omega, g1.2, fun e H2 e0 e1 g2 => ⟨_, _, rfl, ?_⟩⟩
    obtain ⟨m, em, hm⟩ : ∃ m : Nat, (if e < (n : Int) then e else (n : Int)) = m ∧ m ≤ n := by
      refine ⟨(if e < (n : Int) then e else (n : Int)).toNat, ?_, ?_⟩ <;> split <;> omega
    refine ⟨_, rfl, rfl, _, rfl, iteN (fun σ H3 => ∃ m : Nat, σ = [some (.ref p), some (.int aw), some (.int n), some (.int (1 + (k : Int))), some (.int m)] ∧ m ≤ n ∧ (m = 0 ∨ 1 ≤ k) ∧ Go p H H3) ?_ (fun c k0 => k0 _ _ ⟨0, rfl, Nat.zero_le _, .inl rfl, g1.trans g2⟩) (fun c => ⟨m, by rw [← em]; rfl, hm, .inr (by
        by_cases hk : k = 0
        · subst hk; exact absurd c (by simp)
        · omega), g1.trans g2⟩)⟩
    rintro σ H2 ⟨m, rfl, hm, hk, g2⟩
    refine ⟨_, rfl, _, rfl, p, 1 + k, by simp, by omega, g2.2, fun tr rooms H3 g3 h3 l3 r3 => ⟨_, rfl, _, rfl, _, rfl, p, _, m, rfl, by omega, by omega, by omega, g3.2, fun tm ps H4 g4 h4 r4 gd l4 => ⟨by show 2 ≤ sizeLine; omega, fun b hb => ?_⟩⟩⟩
    have h3' := g4.tups g3.2 _ _ h3
    have tn := Tups.new (o := HO.tup [V.ref tr, V.ref tm]) hb
    refine q b rooms tr tm ps _ ((g2.trans (g3.trans g4)).new hb) ⟨upd_same, tn _ _ h3', tn _ _ h4, r4.tups tn⟩ (by omega) (by omega) r3 ?_ (by omega)
    rw [l3]
    simpa using gd
theorem sc__law_time : FnScope ["_law_purse_here", "_law_book_here", "_law_later", "_law_way", "_law_at"] ["_law_purse_here", "_law_book_here", "_law_later"] (defScope s__law_time) := ⟨rfl, rfl, rfl, by decide +kernel, rfl, by decide +kernel, by decide +kernel⟩
theorem ok__law_time (T : Tx K mg a) : FnOk P w K mg base CX0 3 a.a__law_time a.d__law_time ["_law_purse_here", "_law_book_here", "_law_later"] (spTimeOf) := by
  have G__law_take := @ok__law_take P w _ _ base _ T
  have G__law_far := @ok__law_far P w _ _ base _ T
  refine T.F__law_time.ok sc__law_time (fun vs H Q E h => ?_) (fun cdv A outer s H vs Q E hr h => ?_)
  · obtain ⟨p, b, j, _, _, _, _, rfl, _⟩ := h; rfl
  · have nd := sc__law_time.nd
    have hu := hr.units
    obtain ⟨p, b, j, rooms, tr, tm, ps, rfl, hj, hb, gd, hp, q⟩ := h
    refine ⟨_, (@bl_out _ _ _ (@bl_c _ _ _ _ _ _ (ps_set (i := 3) nd rfl (by first | exact Or.inl rfl | exact Or.inr rfl) (pe_call G__law_take (hr.mono (by decide)) rfl T.m__law_take T.k__law_take T.i__law_take .nil pass0 (@pa_out _ _ _ (@pa_c _ _ _ _ _ (pv 0) (@pa_c _ _ _ _ _ pe_int pa_n rfl) rfl)))) (@bl_c _ _ _ _ _ _ (@ps_if _ _ _ _ _ _ _ _ (@pt_cmpR _ _ _ _ _ _ _ _ op_eq (pv 3) pe_int (nomark _)) (@bl_out _ _ _ (@bl_1 _ _ _ (@ps_ret _ _ _ _ (@pe_ix _ _ _ _ _ _ _ (ix_list' rfl) (@pe_lst _ _ _ _ (@pa_out _ _ _ (@pa_c _ _ _ _ _ pe_int (@pa_c _ _ _ _ _ (@pe_op _ _ _ _ _ _ _ _ op_pow pe_int pe_int) pa_n rfl) rfl))) (pv 2) (fun _ _ => rfl))))) pss_nil) (@bl_c _ _ _ _ _ _ (@ps_if _ _ _ _ _ _ _ _ (@pt_cmpR _ _ _ _ _ _ _ _ op_eq (pv 3) pe_int (nomark _)) (@bl_out _ _ _ (@bl_1 _ _ _ (@ps_ret _ _ _ _ (pe_call G__law_far (hr.mono (by decide)) rfl T.m__law_far T.k__law_far T.i__law_far .nil pass0 (@pa_out _ _ _ (@pa_c _ _ _ _ _ (pv 0) pa_n rfl)))))) pss_nil) (@bl_c _ _ _ _ _ _ (@ps_if _ _ _ _ _ _ _ _ (@pt_cmpR _ _ _ _ _ _ _ _ (op_eqUnit hu) (@pe_ix _ _ _ _ _ _ _ (ix_tup' rfl) (pv 1) pe_int (fun _ _ => rfl)) (@pe_tup _ _ _ _ _ pa_nil) (nomark _)) (@bl_out _ _ _ (@bl_1 _ _ _ (@ps_ret _ _ _ _ (pe_call G__law_take (hr.mono (by decide)) rfl T.m__law_take T.k__law_take T.i__law_take .nil pass0 (@pa_out _ _ _ (@pa_c _ _ _ _ _ (pv 0) (@pa_c _ _ _ _ _ pe_int pa_n rfl) rfl)))))) pss_nil) (@bl_c _ _ _ _ _ _ (ps_set (i := 4) nd rfl (by first | exact Or.inl rfl | exact Or.inr rfl) (pe_call G__law_take (hr.mono (by decide)) rfl T.m__law_take T.k__law_take T.i__law_take .nil pass0 (@pa_out _ _ _ (@pa_c _ _ _ _ _ (pv 0) (@pa_c _ _ _ _ _ (pe_callB (call_len_seq' rfl) (by rfl) T.b_len PySem.boot_len (@pa_out _ _ _ (@pa_c _ _ _ _ _ (@pe_ix _ _ _ _ _ _ _ (ix_tup' rfl) (pv 1) pe_int (fun _ _ => rfl)) pa_n rfl))) pa_n rfl) rfl)))) (@bl_c _ _ _ _ _ _ (@ps_if _ _ _ _ _ _ _ _ (@pt_cmpR _ _ _ _ _ _ _ _ op_gt (pv 3) pe_int (nomark _)) (@bl_out _ _ _ (@bl_1 _ _ _ (ps_set (i := 4) nd rfl (by first | exact Or.inl rfl | exact Or.inr rfl) (@pe_ix _ _ _ _ _ _ _ (ix_list' rfl) (@pe_lst _ _ _ _ (@pa_out _ _ _ (@pa_c _ _ _ _ _ (@pe_op _ _ _ _ _ _ _ _ op_fdivB (pv 4) pe_int) (@pa_c _ _ _ _ _ (@pe_op _ _ _ _ _ _ _ _ op_fdivB (@pe_op _ _ _ _ _ _ _ _ op_add (pv 4) (pe_callB (call_len_seq' rfl) (by rfl) T.b_len PySem.boot_len (@pa_out _ _ _ (@pa_c _ _ _ _ _ (@pe_ix _ _ _ _ _ _ _ (ix_tup' rfl) (pv 1) pe_int (fun _ _ => rfl)) pa_n rfl)))) pe_int) pa_n rfl) rfl))) (pv 2) (fun _ _ => rfl))))) pss_nil) (@bl_1 _ _ _ (@ps_ret _ _ _ _ (@pe_op _ _ _ _ _ _ _ _ op_sub (@pe_ix _ _ _ _ _ _ _ (ix_tup' rfl) (@pe_ix _ _ _ _ _ _ _ (ix_tup' rfl) (@pe_ix _ _ _ _ _ _ _ (ix_tup' rfl) (pv 1) pe_int (fun _ _ => rfl)) (pv 4) (fun _ _ => rfl)) pe_int (fun _ _ => rfl)) (@pe_ix _ _ _ _ _ _ _ (ix_list' rfl) (@pe_lst _ _ _ _ (@pa_out _ _ _ (@pa_c _ _ _ _ _ pe_int (@pa_c _ _ _ _ _ pe_int pa_n rfl) rfl))) (@pe_op _ _ _ _ _ _ _ _ op_xor (@pe_op _ _ _ _ _ _ _ _ op_fdivB (pe_call G__law_take (hr.mono (by decide)) rfl T.m__law_take T.k__law_take T.i__law_take .nil pass0 (@pa_out _ _ _ (@pa_c _ _ _ _ _ (pv 0) (@pa_c _ _ _ _ _ pe_int pa_n rfl) rfl))) pe_int) (pv 2)) (fun _ _ => rfl)))))))))))), ?_⟩
    have line := line9
    have e200 : (2 : Int) ^ 200 > 10000 := by decide
    have c9 : CPow 10 9 := ⟨by decide, by decide, by decide⟩
    have e9 : (10 : Int) ^ Int.toNat 9 = 1000000000 := by decide
    have l60 := gd.len
    refine ⟨_, rfl, p, _, rfl, by decide, by decide, hp, fun way H1 w0 w1 g1 => ?_⟩
    refine ⟨_, rfl, rfl, _, rfl, iteD (fun c => ?_) (fun c => ⟨_, rfl, rfl, _, rfl, iteD (fun c => ?_) (fun c => ?_)⟩)⟩
    · refine ⟨_, _, rfl, rfl, c9, by show 2 ≤ sizeLine; omega, fun l hl => ⟨_, rfl, ?_⟩⟩
      rcases hj with rfl | rfl
      · exact ⟨l, _, _, _, rfl, rfl, SqL.of upd_same, rfl, q _ _ (by omega) (by omega) (g1.new hl)⟩
      · exact ⟨l, _, _, _, rfl, rfl, SqL.of upd_same, rfl, q _ _ (by rw [e9]; decide) (by rw [e9]; decide) (g1.new hl)⟩
    · exact ⟨_, rfl, p, rfl, g1.2, fun d H2 d0 d1 g2 => q _ _ d0 d1 (g1.trans g2)⟩
    have hb1 := hb.tups (g1.tups hp)
    refine ⟨_, rfl, b, _, _, _, rfl, rfl, SqT.of hb1.book, rfl, Nat.zero_le _, fun u hu2 => ?_⟩
    have hb2 := hb1.tups (Tups.new (o := HO.tup []) hu2)
    have g2 := g1.new (o := HO.tup []) hu2
    refine ⟨tm, u, _, rfl, rfl, SqT.of hb2.meets, SqT.of upd_same, _, rfl, iteB (fun c2 => ?_) (fun c2 => ?_)⟩
    · exact ⟨_, rfl, p, _, rfl, by decide, by decide, g2.2, fun d H3 d0 d1 g3 => q _ _ d0 (by omega) (g2.trans g3)⟩
    have lps : 1 ≤ ps.length := by
      cases ps with
      | nil => cases c2
      | cons _ _ => simp
    refine ⟨_, rfl, _, rfl, b, _, _, _, rfl, rfl, SqT.of hb2.book, rfl, tm, _, rfl, .inr (SqT.of hb2.meets), p, _, rfl, by rw [List.length_map]; omega, by rw [List.length_map]; omega, g2.2, fun d H3 d0 d1 g3 => ?_⟩
    rw [List.length_map] at d1
    have hb3 := hb2.tups (g3.tups g2.2)
    have gg3 := g2.trans g3
    refine ⟨_, rfl, _, _, rfl, rfl, _, rfl, iteD (fun c3 => ?_) (fun c3 => ?_)⟩
    · refine ⟨_, rfl, _, _, rfl, rfl, ⟨by decide, by decide⟩, _, rfl, _, rfl, b, _, _, _, rfl, rfl, SqT.of hb3.book, rfl, tm, _, rfl, .inr (SqT.of hb3.meets), _, _, rfl, rfl, _, _, rfl, rfl, ⟨by decide, by decide⟩, by show 2 ≤ sizeLine; omega, fun l hl => ⟨_, rfl, ?_⟩⟩
      have gx := gg3.new (o := HO.lst [V.int (d / 2), V.int ((d + ((ps.map fun a => V.ref a.1).length : Int)) / 2)]) hl
      have hx := hb3.tups (Tups.new (o := HO.lst [V.int (d / 2), V.int ((d + ((ps.map fun a => V.ref a.1).length : Int)) / 2)]) hl)
      obtain ⟨k, ek, hk⟩ : ∃ k : Nat, atI [V.int (d / 2), V.int ((d + ((ps.map fun a => V.ref a.1).length : Int)) / 2)] j = some (V.int (k : Int)) ∧ k < ps.length := by
        rcases hj with rfl | rfl
        · obtain ⟨k, hk⟩ := Int.eq_ofNat_of_zero_le (show 0 ≤ d / 2 by omega)
          exact ⟨k, by rw [← hk]; rfl, by omega⟩
        · obtain ⟨k, hk⟩ := Int.eq_ofNat_of_zero_le (show 0 ≤ (d + ((ps.map fun a => V.ref a.1).length : Int)) / 2 by omega)
          refine ⟨k, by rw [← hk]; rfl, ?_⟩
          rw [List.length_map] at hk
          omega
      refine ⟨l, _, _, _, rfl, rfl, SqL.of upd_same, ek, ?_⟩
      refine ⟨_, rfl, b, _, _, _, rfl, rfl, SqT.of hx.book, rfl, _, rfl, tm, _, _, _, rfl, rfl, SqT.of hx.meets, atI_nat (v := V.ref ps[k].1) (by simp [hk]), ps[k].1, _, _, _, rfl, rfl, SqT.of (hx.rows _ (List.getElem_mem hk)), rfl, by show 2 ≤ sizeLine; omega, fun l9 hl9 => ?_⟩
      have g9 := gx.new (o := HO.lst [V.int 1, V.int 0]) hl9
      refine ⟨_, rfl, p, _, rfl, by decide, by decide, g9.2, fun e H9 e0 e1 g10 => ⟨_, _, rfl, rfl, ⟨by decide, by decide⟩, _, rfl, _, _, rfl, rfl, ?_⟩⟩
      have h9 := g10.1 l9 _ (gx.2.ne hl9) upd_same
      have tb := gd.at (List.getElem_mem hk)
      have bx : (e / 3 = 0 ∨ e / 3 = 1) := by omega
      rcases hj with rfl | rfl <;> rcases bx with bx | bx <;> rw [bx]
      · exact ⟨l9, _, _, _, rfl, rfl, SqL.of h9, (by decide : atI [V.int 1, V.int 0] (Builtin.bitXor 0 0) = some (V.int 1)), _, _, rfl, rfl, q _ _ (by omega) (by omega) (g9.trans g10)⟩
      · exact ⟨l9, _, _, _, rfl, rfl, SqL.of h9, (by decide : atI [V.int 1, V.int 0] (Builtin.bitXor 1 0) = some (V.int 0)), _, _, rfl, rfl, q _ _ (by omega) (by omega) (g9.trans g10)⟩
      · exact ⟨l9, _, _, _, rfl, rfl, SqL.of h9, (by decide : atI [V.int 1, V.int 0] (Builtin.bitXor 0 1) = some (V.int 0)), _, _, rfl, rfl, q _ _ (by omega) (by omega) (g9.trans g10)⟩
      · exact ⟨l9, _, _, _, rfl, rfl, SqL.of h9, (by decide : atI [V.int 1, V.int 0] (Builtin.bitXor 1 1) = some (V.int 1)), _, _, rfl, rfl, q _ _ (by omega) (by omega) (g9.trans g10)⟩
    · have gx := gg3
      have hx := hb3
      obtain ⟨k, rfl⟩ := Int.eq_ofNat_of_zero_le d0
      have hk : k < ps.length := by omega
      refine ⟨_, rfl, b, _, _, _, rfl, rfl, SqT.of hx.book, rfl, _, rfl, tm, _, _, _, rfl, rfl, SqT.of hx.meets, atI_nat (v := V.ref ps[k].1) (by simp [hk]), ps[k].1, _, _, _, rfl, rfl, SqT.of (hx.rows _ (List.getElem_mem hk)), rfl, by show 2 ≤ sizeLine; omega, fun l9 hl9 => ?_⟩
      have g9 := gx.new (o := HO.lst [V.int 1, V.int 0]) hl9
      refine ⟨_, rfl, p, _, rfl, by decide, by decide, g9.2, fun e H9 e0 e1 g10 => ⟨_, _, rfl, rfl, ⟨by decide, by decide⟩, _, rfl, _, _, rfl, rfl, ?_⟩⟩
      have h9 := g10.1 l9 _ (gx.2.ne hl9) upd_same
      have tb := gd.at (List.getElem_mem hk)
      have bx : (e / 3 = 0 ∨ e / 3 = 1) := by omega
      rcases hj with rfl | rfl <;> rcases bx with bx | bx <;> rw [bx]
      · exact ⟨l9, _, _, _, rfl, rfl, SqL.of h9, (by decide : atI [V.int 1, V.int 0] (Builtin.bitXor 0 0) = some (V.int 1)), _, _, rfl, rfl, q _ _ (by omega) (by omega) (g9.trans g10)⟩
      · exact ⟨l9, _, _, _, rfl, rfl, SqL.of h9, (by decide : atI [V.int 1, V.int 0] (Builtin.bitXor 1 0) = some (V.int 0)), _, _, rfl, rfl, q _ _ (by omega) (by omega) (g9.trans g10)⟩
      · exact ⟨l9, _, _, _, rfl, rfl, SqL.of h9, (by decide : atI [V.int 1, V.int 0] (Builtin.bitXor 0 1) = some (V.int 0)), _, _, rfl, rfl, q _ _ (by omega) (by omega) (g9.trans g10)⟩
      · exact ⟨l9, _, _, _, rfl, rfl, SqL.of h9, (by decide : atI [V.int 1, V.int 0] (Builtin.bitXor 1 1) = some (V.int 1)), _, _, rfl, rfl, q _ _ (by omega) (by omega) (g9.trans g10)⟩
theorem sc__law_letter : FnScope ["_law_purse_here", "_law_book_here", "_law_walkers", "_law_sender", "_law_wish", "_law_since"] ["_law_purse_here", "_law_book_here"] (defScope s__law_letter) := ⟨rfl, rfl, rfl, by decide +kernel, rfl, by decide +kernel, by decide +kernel⟩
theorem ok__law_letter (T : Tx K mg a) : FnOk P w K mg base CX0 4 a.a__law_letter a.d__law_letter ["_law_purse_here", "_law_book_here"] (spLetter) := by
  have G__law_take := @ok__law_take P w _ _ base _ T
  have G__law_time := @ok__law_time P w _ _ base _ T
  refine T.F__law_letter.ok sc__law_letter (fun vs H Q E h => ?_) (fun cdv A outer s H vs Q E hr h => ?_)
  · obtain ⟨p, b, _, _, _, _, rfl, _⟩ := h; rfl
  · have nd := sc__law_letter.nd
    have hu := hr.units
    obtain ⟨p, b, rooms, tr, tm, ps, rfl, hb, r1, r2, gd, hp, q⟩ := h
    refine ⟨_, (@bl_out _ _ _ (@bl_c _ _ _ _ _ _ (ps_set (i := 2) nd rfl (by first | exact Or.inl rfl | exact Or.inr rfl) (pe_callB (call_len_seq' rfl) (by rfl) T.b_len PySem.boot_len (@pa_out _ _ _ (@pa_c _ _ _ _ _ (@pe_ix _ _ _ _ _ _ _ (ix_tup' rfl) (pv 1) pe_int (fun _ _ => rfl)) pa_n rfl)))) (@bl_c _ _ _ _ _ _ (ps_set (i := 3) nd rfl (by first | exact Or.inl rfl | exact Or.inr rfl) (pe_call G__law_take (hr.mono (by decide)) rfl T.m__law_take T.k__law_take T.i__law_take .nil pass0 (@pa_out _ _ _ (@pa_c _ _ _ _ _ (pv 0) (@pa_c _ _ _ _ _ (pv 2) pa_n rfl) rfl)))) (@bl_c _ _ _ _ _ _ (ps_set (i := 4) nd rfl (by first | exact Or.inl rfl | exact Or.inr rfl) (pe_call G__law_take (hr.mono (by decide)) rfl T.m__law_take T.k__law_take T.i__law_take .nil pass0 (@pa_out _ _ _ (@pa_c _ _ _ _ _ (pv 0) (@pa_c _ _ _ _ _ (pv 2) pa_n rfl) rfl)))) (@bl_c _ _ _ _ _ _ (@ps_if _ _ _ _ _ _ _ _ (@PW.pt _ _ _ (@pw_and _ _ _ _ _ _ _ (@pt_cmpR _ _ _ _ _ _ _ _ op_eq (pv 3) (pv 4) (nomark _)) (@pw_and1 _ _ _ _ (@pt_cmpR _ _ _ _ _ _ _ _ op_gt (pe_call G__law_take (hr.mono (by decide)) rfl T.m__law_take T.k__law_take T.i__law_take .nil pass0 (@pa_out _ _ _ (@pa_c _ _ _ _ _ (pv 0) (@pa_c _ _ _ _ _ pe_int pa_n rfl) rfl))) pe_int (nomark _))))) (@bl_out _ _ _ (@bl_1 _ _ _ (ps_set (i := 4) nd rfl (by first | exact Or.inl rfl | exact Or.inr rfl) (@pe_op _ _ _ _ _ _ _ _ op_mod (@pe_op _ _ _ _ _ _ _ _ op_add (pv 4) pe_int) (pv 2))))) pss_nil) (@bl_c _ _ _ _ _ _ (ps_set (i := 5) nd rfl (by first | exact Or.inl rfl | exact Or.inr rfl) (pe_call G__law_time (hr.mono (by decide)) rfl T.m__law_time T.k__law_time T.i__law_time .nil pass0 (@pa_out _ _ _ (@pa_c _ _ _ _ _ (pv 0) (@pa_c _ _ _ _ _ (pv 1) (@pa_c _ _ _ _ _ pe_int pa_n rfl) rfl) rfl)))) (@bl_1 _ _ _ (@ps_ret _ _ _ _ (@pe_tup _ _ _ _ _ (@pa_out _ _ _ (@pa_c _ _ _ _ _ (pv 3) (@pa_c _ _ _ _ _ (pv 5) (@pa_c _ _ _ _ _ (pv 4) (@pa_c _ _ _ _ _ (pe_call G__law_time (hr.mono (by decide)) rfl T.m__law_time T.k__law_time T.i__law_time .nil pass0 (@pa_out _ _ _ (@pa_c _ _ _ _ _ (pv 0) (@pa_c _ _ _ _ _ (pv 1) (@pa_c _ _ _ _ _ pe_int pa_n rfl) rfl) rfl))) pa_n rfl) rfl) rfl) rfl))))))))))), ?_⟩
    have line := line9
    have e200 : (2 : Int) ^ 200 > 10000 := by decide
    have rl : (rooms.map V.int).length = rooms.length := List.length_map _
    have fin : ∀ s w : Int, 0 ≤ s → s < rooms.length → 0 ≤ w → w < rooms.length → ∀ H3, Go p H H3 → spTimeOf [.ref p, .ref b, .int 0] H3 (fun x H4 => spTimeOf [.ref p, .ref b, .int 1] H4 (fun y H5 => 4 ≤ sizeLine ∧ ∀ t, H5 t = none → Q (.ref t) (upd H5 t (.tup [.int s, x, .int w, y]))) E0) E0 := by
      intro s w s0 s1 w0 w1 H3 g3
      have hb3 := hb.tups (g3.tups hp)
      refine ⟨p, b, 0, rooms, tr, tm, ps, rfl, .inl rfl, hb3, gd, g3.2, fun x H4 x0 x1 g4 => ?_⟩
      exact ⟨p, b, 1, rooms, tr, tm, ps, rfl, .inr rfl, hb3.tups (g4.tups g3.2), gd, g4.2, fun y H5 y0 y1 g5 => ⟨by omega, fun t ht => q t s x w y _ ((g3.trans (g4.trans g5)).new ht) upd_same s0 s1 w0 w1 x0 x1 y0 y1⟩⟩
    refine ⟨_, rfl, b, _, _, _, rfl, rfl, SqT.of hb.book, rfl, tr, _, rfl, .inr (SqT.of hb.rooms), ?_⟩
    refine ⟨_, rfl, _, rfl, p, _, rfl, by omega, by omega, hp, fun s H1 s0 s1 g1 => ⟨_, rfl, _, rfl, p, _, rfl, by omega, by omega, g1.2, fun w H2 w0 w1 g2 => ?_⟩⟩
    refine ⟨_, rfl, _, rfl, rfl, _, rfl, iteD (fun c => ?_) (fun c => iteB0 rfl ?_)⟩
    · refine ⟨_, rfl, p, _, rfl, by decide, by decide, g2.2, fun e H3 e0 e1 g3 => ⟨_, _, rfl, rfl, _, rfl, iteD (fun c2 => ?_) (fun c2 => ?_)⟩⟩
      · refine ⟨_, rfl, _, _, rfl, rfl, _, rfl, _, _, rfl, rfl, by omega, ?_⟩
        have := fin s ((w + 1) % (((rooms.map V.int).length : Nat) : Int)) s0 (by omega) (Int.emod_nonneg _ (by omega)) (by have := Int.emod_lt_of_pos (w + 1) (show (0 : Int) < ((rooms.map V.int).length : Nat) by omega); omega) H3 (g1.trans (g2.trans g3))
        simp only [gTup, gCons, gNil, tYes, tBM, rAppend, gSub, tAugS, ipI, rU, rIxL, rIxT, rSetL, tSeq, tAsg, tIfS, tRet, tOp, tUn, rI0, rI, tVar, tC, gName, tCall, tCB, tCons, tNil, tAndV, tOrV, tNotV, tNext, tTest, tB, tNot, tAnd, tOr, tDrop, rEq, rNe, scal, tChain, tTup, tLst, tSl, tNoPart, tPart, cxOf, L2.start, List.map_cons, List.map_nil, List.length_cons, List.length_nil, Nat.reduceAdd, Nat.reduceSub, List.replicate, List.cons_append, List.nil_append, List.append_nil, List.getElem?_cons_zero, List.getElem?_cons_succ, Option.some.injEq, exists_eq_left', exists_eq_left, exists_and_left, and_assoc, V.int.injEq, V.ty.injEq, V.str.injEq, V.bl.injEq, V.ref.injEq, List.cons.injEq, and_true, true_and, List.set_cons_zero, List.set_cons_succ]
        exact this
      · have := fin s w s0 (by omega) w0 (by omega) H3 (g1.trans (g2.trans g3))
        simp only [gTup, gCons, gNil, tYes, tBM, rAppend, gSub, tAugS, ipI, rU, rIxL, rIxT, rSetL, tSeq, tAsg, tIfS, tRet, tOp, tUn, rI0, rI, tVar, tC, gName, tCall, tCB, tCons, tNil, tAndV, tOrV, tNotV, tNext, tTest, tB, tNot, tAnd, tOr, tDrop, rEq, rNe, scal, tChain, tTup, tLst, tSl, tNoPart, tPart, cxOf, L2.start, List.map_cons, List.map_nil, List.length_cons, List.length_nil, Nat.reduceAdd, Nat.reduceSub, List.replicate, List.cons_append, List.nil_append, List.append_nil, List.getElem?_cons_zero, List.getElem?_cons_succ, Option.some.injEq, exists_eq_left', exists_eq_left, exists_and_left, and_assoc, V.int.injEq, V.ty.injEq, V.str.injEq, V.bl.injEq, V.ref.injEq, List.cons.injEq, and_true, true_and, List.set_cons_zero, List.set_cons_succ]
        exact this
    · have := fin s w s0 (by omega) w0 (by omega) H2 (g1.trans g2)
      simp only [gTup, gCons, gNil, tYes, tBM, rAppend, gSub, tAugS, ipI, rU, rIxL, rIxT, rSetL, tSeq, tAsg, tIfS, tRet, tOp, tUn, rI0, rI, tVar, tC, gName, tCall, tCB, tCons, tNil, tAndV, tOrV, tNotV, tNext, tTest, tB, tNot, tAnd, tOr, tDrop, rEq, rNe, scal, tChain, tTup, tLst, tSl, tNoPart, tPart, cxOf, L2.start, List.map_cons, List.map_nil, List.length_cons, List.length_nil, Nat.reduceAdd, Nat.reduceSub, List.replicate, List.cons_append, List.nil_append, List.append_nil, List.getElem?_cons_zero, List.getElem?_cons_succ, Option.some.injEq, exists_eq_left', exists_eq_left, exists_and_left, and_assoc, V.int.injEq, V.ty.injEq, V.str.injEq, V.bl.injEq, V.ref.injEq, List.cons.injEq, and_true, true_and, List.set_cons_zero, List.set_cons_succ]
      exact this
theorem sc__law_letters : FnScope ["_law_purse_here", "_law_book_here", "_law_many"] ["_law_purse_here", "_law_book_here"] (defScope s__law_letters) := ⟨rfl, rfl, rfl, by decide +kernel, rfl, by decide +kernel, by decide +kernel⟩
theorem ok__law_letters (T : Tx K mg a) : FnOk P w K mg base CX0 5 a.a__law_letters a.d__law_letters ["_law_purse_here", "_law_book_here"] (spLetters) := by
  have G__law_take := @ok__law_take P w _ _ base _ T
  have G__law_letter := @ok__law_letter P w _ _ base _ T
  refine T.F__law_letters.ok sc__law_letters (fun vs H Q E h => ?_) (fun cdv A outer s H vs Q E hr h => ?_)
  · obtain ⟨_, _, _, _, _, _, rfl, _⟩ := h; rfl
  · have nd := sc__law_letters.nd
    have hu := hr.units
    obtain ⟨p, b, rooms, tr, tm, ps, rfl, hb, r1, r2, gd, pu, q⟩ := h
    refine ⟨_, (@bl_out _ _ _ (@bl_c _ _ _ _ _ _ (ps_set (i := 2) nd rfl (by first | exact Or.inl rfl | exact Or.inr rfl) (pe_call G__law_take (hr.mono (by decide)) rfl T.m__law_take T.k__law_take T.i__law_take .nil pass0 (@pa_out _ _ _ (@pa_c _ _ _ _ _ (pv 0) (@pa_c _ _ _ _ _ pe_int pa_n rfl) rfl)))) (@bl_c _ _ _ _ _ _ (@ps_if _ _ _ _ _ _ _ _ (@pt_cmpR _ _ _ _ _ _ _ _ op_eq (pe_call G__law_take (hr.mono (by decide)) rfl T.m__law_take T.k__law_take T.i__law_take .nil pass0 (@pa_out _ _ _ (@pa_c _ _ _ _ _ (pv 0) (@pa_c _ _ _ _ _ pe_int pa_n rfl) rfl))) pe_int (nomark _)) (@bl_out _ _ _ (@bl_1 _ _ _ (ps_set (i := 2) nd rfl (by first | exact Or.inl rfl | exact Or.inr rfl) (pe_call G__law_take (hr.mono (by decide)) rfl T.m__law_take T.k__law_take T.i__law_take .nil pass0 (@pa_out _ _ _ (@pa_c _ _ _ _ _ (pv 0) (@pa_c _ _ _ _ _ pe_int pa_n rfl) rfl)))))) pss_nil) (@bl_1 _ _ _ (@ps_ret _ _ _ _ (pe_comp (own := ["_law_k"]) (caps := [0, 1]) rfl (show CompScope ["_law_k"] [0, 1] ["_law_purse_here", "_law_book_here", "_law_many"] (defScope s__law_letters) _ from ⟨rfl, by decide +kernel, by decide +kernel, by decide +kernel, by decide +kernel⟩) (pi_range1 rfl T.b_range (@pa_out _ _ _ (@pa_c _ _ _ _ _ (pv 2) pa_n rfl))) (fun _ _ _ _ => (pg_name (i := 0) (show List.Nodup (["_law_k", "_law_purse_here", "_law_book_here"] : List Str) from by decide +kernel) rfl (by first | exact Or.inl rfl | exact Or.inr rfl))) (fun _ _ _ _ => pts_nil) (fun _ _ _ _ => (pe_call G__law_letter (hr.mono (by decide)) rfl T.m__law_letter T.k__law_letter T.i__law_letter .nil pass0 (@pa_out _ _ _ (@pa_c _ _ _ _ _ (pv 1) (@pa_c _ _ _ _ _ (pv 2) pa_n rfl) rfl)))))))))), ?_⟩
    have line := line9
    refine ⟨_, rfl, p, 7, rfl, by decide, by decide, pu, fun d1 H1 d0 d7 g1 => ?_⟩
    refine ⟨_, rfl, p, 8, rfl, by decide, by decide, g1.2, fun d2 H2 e0 e8 g2 => ⟨rfl, _, rfl, iteB (fun c => ?_) (fun c => ?_)⟩⟩
    · refine ⟨_, rfl, p, 41, rfl, by decide, by decide, (g1.trans g2).2, fun d3 H3 f0 f41 g3 => ?_⟩
      have G := (g1.trans g2).trans g3
      obtain ⟨n, rfl⟩ := Int.eq_ofNat_of_zero_le f0
      refine ⟨_, rfl, n, rfl, by omega, by omega, ?_⟩
      refine comp_range (lo := 0) (m := n) (fun i τ acc H5 => ∃ ls : List (Addr × L4), (∃ t0, τ = [t0, some (.ref p), some (.ref b)]) ∧ acc = (ls.map fun x => V.ref x.1) ∧ ls.length = i ∧ Go p H H5 ∧ ∀ x ∈ ls, H5 x.1 = some (.tup (letRow x.2))) ⟨[], ⟨_, rfl⟩, rfl, rfl, G, fun _ h => nomatch h⟩ (by omega) ?_ ?_ ?_
      · rintro i τ acc H5 ⟨ls, _, rfl, rfl, _⟩
        rw [List.length_map]; exact Nat.le_refl _
      · rintro i τ acc H5 C hi ⟨ls, ⟨t0, rfl⟩, rfl, li, G5, hr5⟩ hC
        have hb5 := hb.tups (G5.tups pu)
        refine ⟨_, rfl, _, rfl, p, b, rooms, tr, tm, ps, rfl, hb5, r1, r2, gd, G5.2, fun t s a w z H6 g6 ht s0 _ w0 _ _ _ _ _ => ?_⟩
        obtain ⟨s, rfl⟩ := Int.eq_ofNat_of_zero_le s0
        obtain ⟨w, rfl⟩ := Int.eq_ofNat_of_zero_le w0
        refine hC _ _ _ ⟨ls ++ [(t, ⟨s, w, a, z⟩)], ⟨_, rfl⟩, by rw [List.map_append]; rfl, by rw [List.length_append, li]; rfl, G5.trans g6, fun x hx => ?_⟩
        rcases List.mem_append.mp hx with hx | hx
        · exact g6.tups G5.2 _ _ (hr5 x hx)
        · cases List.mem_singleton.mp hx
          exact ht
      · rintro τ acc H5 ⟨ls, ⟨t0, rfl⟩, rfl, li, G5, hr5⟩ lc hlc
        have s6 := same_new (o := HO.lst (ls.map fun x => V.ref x.1)) hlc
        exact q lc ls _ (G5.same s6) upd_same (fun x hx => s6 _ _ (hr5 x hx)) (by omega) (G5.2.ne hlc)
    · have G := g1.trans g2
      obtain ⟨n, rfl⟩ := Int.eq_ofNat_of_zero_le d0
      refine ⟨_, rfl, n, rfl, by omega, by omega, ?_⟩
      refine comp_range (lo := 0) (m := n) (fun i τ acc H5 => ∃ ls : List (Addr × L4), (∃ t0, τ = [t0, some (.ref p), some (.ref b)]) ∧ acc = (ls.map fun x => V.ref x.1) ∧ ls.length = i ∧ Go p H H5 ∧ ∀ x ∈ ls, H5 x.1 = some (.tup (letRow x.2))) ⟨[], ⟨_, rfl⟩, rfl, rfl, G, fun _ h => nomatch h⟩ (by omega) ?_ ?_ ?_
      · rintro i τ acc H5 ⟨ls, _, rfl, rfl, _⟩
        rw [List.length_map]; exact Nat.le_refl _
      · rintro i τ acc H5 C hi ⟨ls, ⟨t0, rfl⟩, rfl, li, G5, hr5⟩ hC
        have hb5 := hb.tups (G5.tups pu)
        refine ⟨_, rfl, _, rfl, p, b, rooms, tr, tm, ps, rfl, hb5, r1, r2, gd, G5.2, fun t s a w z H6 g6 ht s0 _ w0 _ _ _ _ _ => ?_⟩
        obtain ⟨s, rfl⟩ := Int.eq_ofNat_of_zero_le s0
        obtain ⟨w, rfl⟩ := Int.eq_ofNat_of_zero_le w0
        refine hC _ _ _ ⟨ls ++ [(t, ⟨s, w, a, z⟩)], ⟨_, rfl⟩, by rw [List.map_append]; rfl, by rw [List.length_append, li]; rfl, G5.trans g6, fun x hx => ?_⟩
        rcases List.mem_append.mp hx with hx | hx
        · exact g6.tups G5.2 _ _ (hr5 x hx)
        · cases List.mem_singleton.mp hx
          exact ht
      · rintro τ acc H5 ⟨ls, ⟨t0, rfl⟩, rfl, li, G5, hr5⟩ lc hlc
        have s6 := same_new (o := HO.lst (ls.map fun x => V.ref x.1)) hlc
        exact q lc ls _ (G5.same s6) upd_same (fun x hx => s6 _ _ (hr5 x hx)) (by omega) (G5.2.ne hlc)
theorem sc__law_whole : FnScope ["_law_thing_here"] ["_law_thing_here"] (defScope s__law_whole) := ⟨rfl, rfl, rfl, by decide +kernel, rfl, by decide +kernel, by decide +kernel⟩
theorem ok__law_whole (T : Tx K mg a) : FnOk P w K mg base CX0 1 a.a__law_whole a.d__law_whole ["_law_thing_here"] (spWhole) := by
  refine T.F__law_whole.ok sc__law_whole (fun vs H Q E h => ?_) (fun cdv A outer s H vs Q E hr h => ?_)
  · obtain ⟨x, t, rfl, _⟩ := h; rfl
  · have nd := sc__law_whole.nd
    have hu := hr.units
    obtain ⟨x, t, rfl, ht, k⟩ := h
    refine ⟨_, (@bl_out _ _ _ (@bl_1 _ _ _ (@ps_ret _ _ _ _ (@pe_and _ _ _ _ _ _ _ (pe_callB (call_isinst) (by rfl) T.b_isinstance PyProof.Rows.boot_isinstance (@pa_out _ _ _ (@pa_c _ _ _ _ _ (pv 0) (@pa_c _ _ _ _ _ (pe_bltn (v := V.ty "int") rfl T.b_int PyProof.Rows.boot_int rfl) pa_n rfl) rfl))) (@pe_one _ _ _ _ _ (@pe_not _ _ _ _ (pe_callB (call_isinst) (by rfl) T.b_isinstance PyProof.Rows.boot_isinstance (@pa_out _ _ _ (@pa_c _ _ _ _ _ (pv 0) (@pa_c _ _ _ _ _ (pe_bltn (v := V.ty "bool") rfl T.b_bool PyProof.Rows.boot_bool rfl) pa_n rfl) rfl))))))))), ?_⟩
    refine ⟨_, rfl, x, t, "int", rfl, ht, .inl rfl, _, rfl, ?_⟩
    rcases tyS_six ht with rfl | rfl | rfl | rfl | rfl | rfl | rfl <;> first | exact iteB0 rfl k | exact iteB1 rfl ⟨_, rfl, x, _, "bool", rfl, ht, .inr (.inl rfl), _, rfl, k⟩
theorem sc_is_whole : FnScope ["thing"] ["thing"] (defScope s_is_whole) := ⟨rfl, rfl, rfl, by decide +kernel, rfl, by decide +kernel, by decide +kernel⟩
theorem ok_is_whole (T : Tx K mg a) : FnOk P w K mg base CX0 1 a.a_is_whole a.d_is_whole ["thing"] (spWhole) := by
  refine T.F_is_whole.ok sc_is_whole (fun vs H Q E h => ?_) (fun cdv A outer s H vs Q E hr h => ?_)
  · obtain ⟨x, t, rfl, _⟩ := h; rfl
  · have nd := sc_is_whole.nd
    have hu := hr.units
    obtain ⟨x, t, rfl, ht, k⟩ := h
    refine ⟨_, (@bl_out _ _ _ (@bl_1 _ _ _ (@ps_ret _ _ _ _ (@pe_and _ _ _ _ _ _ _ (pe_callB (call_isinst) (by rfl) T.b_isinstance PyProof.Rows.boot_isinstance (@pa_out _ _ _ (@pa_c _ _ _ _ _ (pv 0) (@pa_c _ _ _ _ _ (pe_bltn (v := V.ty "int") rfl T.b_int PyProof.Rows.boot_int rfl) pa_n rfl) rfl))) (@pe_one _ _ _ _ _ (@pe_not _ _ _ _ (pe_callB (call_isinst) (by rfl) T.b_isinstance PyProof.Rows.boot_isinstance (@pa_out _ _ _ (@pa_c _ _ _ _ _ (pv 0) (@pa_c _ _ _ _ _ (pe_bltn (v := V.ty "bool") rfl T.b_bool PyProof.Rows.boot_bool rfl) pa_n rfl) rfl))))))))), ?_⟩
    refine ⟨_, rfl, x, t, "int", rfl, ht, .inl rfl, _, rfl, ?_⟩
    rcases tyS_six ht with rfl | rfl | rfl | rfl | rfl | rfl | rfl <;> first | exact iteB0 rfl k | exact iteB1 rfl ⟨_, rfl, x, _, "bool", rfl, ht, .inr (.inl rfl), _, rfl, k⟩
theorem sc_is_within : FnScope ["thing", "least", "most"] ["thing", "least", "most"] (defScope s_is_within) := ⟨rfl, rfl, rfl, by decide +kernel, rfl, by decide +kernel, by decide +kernel⟩
theorem ok_is_within (T : Tx K mg a) : FnOk P w K mg base CX0 2 a.a_is_within a.d_is_within ["thing", "least", "most"] (spWithin) := by
  have G_is_whole := @ok_is_whole P w _ _ base _ T
  refine T.F_is_within.ok sc_is_within (fun vs H Q E h => ?_) (fun cdv A outer s H vs Q E hr h => ?_)
  · obtain ⟨x, t, lo, hi, rfl, _⟩ := h; rfl
  · have nd := sc_is_within.nd
    have hu := hr.units
    obtain ⟨x, t, lo, hi, rfl, ht, k⟩ := h
    refine ⟨_, (@bl_out _ _ _ (@bl_1 _ _ _ (@ps_ret _ _ _ _ (@pe_and _ _ _ _ _ _ _ (pe_call G_is_whole (hr.mono (by decide)) rfl T.m_is_whole T.k_is_whole T.i_is_whole .nil pass0 (@pa_out _ _ _ (@pa_c _ _ _ _ _ (pv 0) pa_n rfl))) (@pe_one _ _ _ _ _ (pe_chain op_le op_le (pv 1) (pv 0) (pv 2))))))), ?_⟩
    refine ⟨_, rfl, x, t, rfl, ht, _, rfl, ?_⟩
    by_cases h : t = "int"
    · subst h
      obtain ⟨i, rfl⟩ := tyS_int ht
      refine iteB1 rfl ⟨_, rfl, _, rfl, _, _, rfl, rfl, _, rfl, ?_⟩
      have k : Q (.bl (decide (lo ≤ i) && decide (i ≤ hi))) H := k
      by_cases h1 : lo ≤ i
      · rw [decide_eq_true h1] at k ⊢
        exact iteB1 rfl ⟨_, rfl, _, _, rfl, rfl, k⟩
      · rw [decide_eq_false h1] at k ⊢
        exact iteB0 rfl k
    · rw [inB_no ht h] at k
      exact iteB0 (by simpa using h) k
theorem sc_is_below : FnScope ["number", "bound"] ["number", "bound"] (defScope s_is_below) := ⟨rfl, rfl, rfl, by decide +kernel, rfl, by decide +kernel, by decide +kernel⟩
theorem ok_is_below (T : Tx K mg a) : FnOk P w K mg base CX0 1 a.a_is_below a.d_is_below ["number", "bound"] (spBelow) := by
  refine T.F_is_below.ok sc_is_below (fun vs H Q E h => ?_) (fun cdv A outer s H vs Q E hr h => ?_)
  · obtain ⟨o, t, rfl, _⟩ := h; rfl
  · have nd := sc_is_below.nd
    have hu := hr.units
    obtain ⟨o, t, rfl, q⟩ := h
    refine ⟨_, (@bl_out _ _ _ (@bl_1 _ _ _ (@ps_ret _ _ _ _ (@pe_and _ _ _ _ _ _ _ (pe_cmp (@pc_notN _ _ _ _ _ (pv 0))) (@pe_one _ _ _ _ _ (@pe_cmpR _ _ _ _ _ _ _ _ op_lt (pv 0) (pv 1) (nomark _))))))), ?_⟩
    cases o with
    | none => exact ⟨_, rfl, _, rfl, iteB0 rfl q⟩
    | some y => exact ⟨_, rfl, _, rfl, iteB1 rfl ⟨_, rfl, _, rfl, _, _, rfl, rfl, q⟩⟩
theorem sc_is_meeting_number : FnScope ["book", "thing"] ["book", "thing"] (defScope s_is_meeting_number) := ⟨rfl, rfl, rfl, by decide +kernel, rfl, by decide +kernel, by decide +kernel⟩
theorem ok_is_meeting_number (T : Tx K mg a) : FnOk P w K mg base CX0 3 a.a_is_meeting_number a.d_is_meeting_number ["book", "thing"] (spIsMeetNo) := by
  have G_is_within := @ok_is_within P w _ _ base _ T
  refine T.F_is_meeting_number.ok sc_is_meeting_number (fun vs H Q E h => ?_) (fun cdv A outer s H vs Q E hr h => ?_)
  · obtain ⟨b, x, t, _, _, _, _, rfl, _⟩ := h; rfl
  · have nd := sc_is_meeting_number.nd
    have hu := hr.units
    obtain ⟨b, x, t, rooms, tr, tm, ps, rfl, hb, ht, q⟩ := h
    refine ⟨_, (@bl_out _ _ _ (@bl_1 _ _ _ (@ps_ret _ _ _ _ (pe_call G_is_within (hr.mono (by decide)) rfl T.m_is_within T.k_is_within T.i_is_within .nil pass0 (@pa_out _ _ _ (@pa_c _ _ _ _ _ (pv 1) (@pa_c _ _ _ _ _ pe_int (@pa_c _ _ _ _ _ (@pe_op _ _ _ _ _ _ _ _ op_sub (pe_callB (call_len_seq' rfl) (by rfl) T.b_len PySem.boot_len (@pa_out _ _ _ (@pa_c _ _ _ _ _ (@pe_ix _ _ _ _ _ _ _ (ix_tup' rfl) (pv 0) pe_int (fun _ _ => rfl)) pa_n rfl))) pe_int) pa_n rfl) rfl) rfl)))))), ?_⟩
    refine ⟨_, rfl, _, rfl, b, _, _, _, rfl, rfl, SqT.of hb.book, rfl, tm, _, rfl, .inr (SqT.of hb.meets), _, _, rfl, rfl, x, t, _, _, rfl, ht, ?_⟩
    rw [List.length_map]
    exact q
theorem sc_is_walker : FnScope ["book", "thing"] ["book", "thing"] (defScope s_is_walker) := ⟨rfl, rfl, rfl, by decide +kernel, rfl, by decide +kernel, by decide +kernel⟩
theorem ok_is_walker (T : Tx K mg a) : FnOk P w K mg base CX0 3 a.a_is_walker a.d_is_walker ["book", "thing"] (spIsWalker) := by
  have G_is_within := @ok_is_within P w _ _ base _ T
  refine T.F_is_walker.ok sc_is_walker (fun vs H Q E h => ?_) (fun cdv A outer s H vs Q E hr h => ?_)
  · obtain ⟨b, x, t, _, _, _, _, rfl, _⟩ := h; rfl
  · have nd := sc_is_walker.nd
    have hu := hr.units
    obtain ⟨b, x, t, rooms, tr, tm, ps, rfl, hb, ht, q⟩ := h
    refine ⟨_, (@bl_out _ _ _ (@bl_1 _ _ _ (@ps_ret _ _ _ _ (pe_call G_is_within (hr.mono (by decide)) rfl T.m_is_within T.k_is_within T.i_is_within .nil pass0 (@pa_out _ _ _ (@pa_c _ _ _ _ _ (pv 1) (@pa_c _ _ _ _ _ pe_int (@pa_c _ _ _ _ _ (@pe_op _ _ _ _ _ _ _ _ op_sub (pe_callB (call_len_seq' rfl) (by rfl) T.b_len PySem.boot_len (@pa_out _ _ _ (@pa_c _ _ _ _ _ (@pe_ix _ _ _ _ _ _ _ (ix_tup' rfl) (pv 0) pe_int (fun _ _ => rfl)) pa_n rfl))) pe_int) pa_n rfl) rfl) rfl)))))), ?_⟩
    refine ⟨_, rfl, _, rfl, b, _, _, _, rfl, rfl, SqT.of hb.book, rfl, tr, _, rfl, .inr (SqT.of hb.rooms), _, _, rfl, rfl, x, t, _, _, rfl, ht, ?_⟩
    rw [List.length_map]
    exact q
theorem sc_other_at : FnScope ["book", "number", "walker", "one", "other", "when", "many"] ["book", "number", "walker"] (defScope s_other_at) := ⟨rfl, rfl, rfl, by decide +kernel, rfl, by decide +kernel, by decide +kernel⟩
theorem ok_other_at (T : Tx K mg a) : FnOk P w K mg base CX0 1 a.a_other_at a.d_other_at ["book", "number", "walker"] (spOtherAt) := by
  refine T.F_other_at.ok sc_other_at (fun vs H Q E h => ?_) (fun cdv A outer s H vs Q E hr h => ?_)
  · obtain ⟨b, k, v, _, _, _, _, _, rfl, _⟩ := h; rfl
  · have nd := sc_other_at.nd
    have hu := hr.units
    obtain ⟨b, k, v, rooms, tr, tm, ps, m, rfl, hb, hm, q⟩ := h
    refine ⟨_, (@bl_out _ _ _ (@bl_c _ _ _ _ _ _ (ps_asg (@pe_ix _ _ _ _ _ _ _ (ix_tup' rfl) (@pe_ix _ _ _ _ _ _ _ (ix_tup' rfl) (pv 0) pe_int (fun _ _ => rfl)) (pv 1) (fun _ _ => rfl)) (pg_tup' (n := 4) rfl rfl (pgs_cons (pg_name (i := 3) nd rfl (by first | exact Or.inl rfl | exact Or.inr rfl)) (pgs_cons (pg_name (i := 4) nd rfl (by first | exact Or.inl rfl | exact Or.inr rfl)) (pgs_cons (pg_name (i := 5) nd rfl (by first | exact Or.inl rfl | exact Or.inr rfl)) (pgs_cons (pg_name (i := 6) nd rfl (by first | exact Or.inl rfl | exact Or.inr rfl)) pgs_nil)))))) (@bl_1 _ _ _ (@ps_ret _ _ _ _ (@pe_ifExp _ _ _ _ _ _ _ _ (@pt_cmpR _ _ _ _ _ _ _ _ op_eq (pv 2) (pv 3) (nomark _)) (pv 4) (pv 3)))))), ?_⟩
    have hk : k < ps.length := by
      have := (List.getElem?_eq_some_iff.mp hm).1
      simpa using this
    have em : ps[k].2 = m := by
      rw [List.getElem?_map, List.getElem?_eq_getElem hk] at hm
      exact Option.some.inj hm
    have hrow := hb.rows _ (List.getElem_mem hk)
    rw [em] at hrow
    refine ⟨_, rfl, b, _, _, _, rfl, rfl, SqT.of hb.book, rfl, _, rfl, tm, _, _, _, rfl, rfl, SqT.of hb.meets, atI_nat (v := V.ref ps[k].1) (by simp [hk]), ps[k].1, _, rfl, SqT.of hrow, rfl, _, _, rfl, _, _, rfl, _, _, rfl, _, _, rfl, rfl, ?_⟩
    refine ⟨_, rfl, _, rfl, rfl, _, rfl, iteD (fun c => ?_) (fun c => ?_)⟩
    · rw [if_pos (V.int.inj c)] at q
      exact ⟨_, rfl, q⟩
    · rw [if_neg fun z => c (by rw [z])] at q
      exact ⟨_, rfl, q⟩
theorem sc_are_wholes : FnScope ["things"] ["things"] (defScope s_are_wholes) := ⟨rfl, rfl, rfl, by decide +kernel, rfl, by decide +kernel, by decide +kernel⟩
theorem ok_are_wholes (T : Tx K mg a) : FnOk P w K mg base CX0 2 a.a_are_wholes a.d_are_wholes ["things"] (spAreWw) := by
  have G_is_whole := @ok_is_whole P w _ _ base _ T
  refine T.F_are_wholes.ok sc_are_wholes (fun vs H Q E h => ?_) (fun cdv A outer s H vs Q E hr h => ?_)
  · obtain ⟨_, _, rfl, _⟩ := h; rfl
  · have nd := sc_are_wholes.nd
    have hu := hr.units
    obtain ⟨p, xs, rfl, hp, n10, hps, q⟩ := h
    refine ⟨_, (@bl_out _ _ _ (@bl_1 _ _ _ (@ps_ret _ _ _ _ (pe_callB (call_all rfl rfl) (by rfl) T.b_all PyProof.Rows.boot_all (@pa_out _ _ _ (@pa_c _ _ _ _ _ (pe_comp (own := ["thing"]) (caps := []) rfl (show CompScope ["thing"] [] ["things"] (defScope s_are_wholes) _ from ⟨rfl, by decide +kernel, by decide +kernel, by decide +kernel, by decide +kernel⟩) (@pi_tup'' _ _ _ _ _ rfl (pv 0)) (fun _ _ _ _ => (pg_name (i := 0) (show List.Nodup (["thing"] : List Str) from by decide +kernel) rfl (by first | exact Or.inl rfl | exact Or.inr rfl))) (fun _ _ _ _ => pts_nil) (fun _ _ _ _ => (pe_call G_is_whole (hr.mono (by decide)) rfl T.m_is_whole T.k_is_whole T.i_is_whole .nil pass0 (@pa_out _ _ _ (@pa_c _ _ _ _ _ (pv 0) pa_n rfl))))) pa_n rfl)))))), ?_⟩
    have line := line9
    refine ⟨_, rfl, p, rfl, ⟨_, SqT.of hp⟩, ?_⟩
    refine comp_tup (K := K) (a := p) (xs := xs) (fun i τ acc H5 => (∃ t0, τ = [t0]) ∧ acc = ((xs.take i).map isI).map V.bl ∧ H5 = H) ⟨⟨_, rfl⟩, rfl, rfl⟩ (by omega) ?_ ?_ ?_
    · rintro i τ acc H5 ⟨_, rfl, rfl⟩
      exact ⟨by simp; omega, SqT.of hp⟩
    · rintro i x τ acc H5 C hx ⟨⟨t0, rfl⟩, rfl, rfl⟩ hC
      obtain ⟨t, ht, ei⟩ := part_ty (hps x (List.mem_of_getElem? hx))
      exact ⟨_, rfl, x, t, rfl, ht, hC _ _ _ ⟨⟨_, rfl⟩, by rw [take_snoc hx, List.map_append, List.map_append, ei]; rfl, rfl⟩⟩
    · rintro τ acc H5 ⟨_, rfl, rfl⟩ l hl
      refine ⟨l, _, rfl, SqL.of upd_same, ?_⟩
      have : ((xs.take xs.length).map isI).all id = xs.all isI := by rw [List.take_length, List.all_map]; rfl
      rw [this]
      exact q _ (same_new hl)
theorem sc_is_passing : FnScope ["thing"] ["thing"] (defScope s_is_passing) := ⟨rfl, rfl, rfl, by decide +kernel, rfl, by decide +kernel, by decide +kernel⟩
theorem ok_is_passing (T : Tx K mg a) : FnOk P w K mg base CX0 3 a.a_is_passing a.d_is_passing ["thing"] (spIsPassW) := by
  have G_are_wholes := @ok_are_wholes P w _ _ base _ T
  refine T.F_is_passing.ok sc_is_passing (fun vs H Q E h => ?_) (fun cdv A outer s H vs Q E hr h => ?_)
  · obtain ⟨_, rfl, _⟩ := h; rfl
  · have nd := sc_is_passing.nd
    have hu := hr.units
    obtain ⟨y, rfl, h⟩ := h
    refine ⟨_, (@bl_out _ _ _ (@bl_1 _ _ _ (@ps_ret _ _ _ _ (@pe_and _ _ _ _ _ _ _ (pe_callB (call_isinst) (by rfl) T.b_isinstance PyProof.Rows.boot_isinstance (@pa_out _ _ _ (@pa_c _ _ _ _ _ (pv 0) (@pa_c _ _ _ _ _ (pe_bltn (v := V.ty "tuple") rfl T.b_tuple PyProof.Rows.boot_tuple rfl) pa_n rfl) rfl))) (@pe_and _ _ _ _ _ _ _ (@pe_cmpR _ _ _ _ _ _ _ _ op_eq (pe_callB (call_len_seq' rfl) (by rfl) T.b_len PySem.boot_len (@pa_out _ _ _ (@pa_c _ _ _ _ _ (pv 0) pa_n rfl))) pe_int (nomark _)) (@pe_and _ _ _ _ _ _ _ (@pe_cmpR _ _ _ _ _ _ _ _ (op_inW' rfl hu) (@pe_ix _ _ _ _ _ _ _ (ix_tup' rfl) (pv 0) pe_int (fun _ _ => rfl)) (@pe_tup _ _ _ _ _ (@pa_out _ _ _ (@pa_c _ _ _ _ _ pe_str (@pa_c _ _ _ _ _ pe_str pa_n rfl) rfl))) rfl) (@pe_one _ _ _ _ _ (pe_call G_are_wholes (hr.mono (by decide)) rfl T.m_are_wholes T.k_are_wholes T.i_are_wholes .nil pass0 (@pa_out _ _ _ (@pa_c _ _ _ _ _ (@pe_slice _ _ _ _ _ _ _ _ _ _ (sl_tup' rfl) (pv 0) (@po_some _ _ _ pe_int) po_none) pa_n rfl)))))))))), ?_⟩
    have line := line9
    have ptI : ∀ {H' : Hp} {x : V} {ns : List Int}, x ∈ ns.map V.int → partV H' x := fun {H' x ns} hx => by
      obtain ⟨i, _, rfl⟩ := List.mem_map.mp hx
      exact .inl rfl
    rcases h with ⟨d, ⟨p, rfl, hp⟩, q⟩ | ⟨hn, q⟩
    · cases d with
      | drop l w0 => exact ⟨_, rfl, _, "tuple", "tuple", rfl, tyS_tup hp, .inr (.inr (.inr rfl)), _, rfl, iteB1 rfl ⟨_, rfl, p, _, rfl, .inr (SqT.of hp), rfl, _, rfl, iteB0 rfl (q H (Same.refl _))⟩⟩
      | pass gv m l g =>
        have ptI : ∀ {H' : Hp} {x : V}, x ∈ [V.int m, V.int l, V.int g] → partV H' x := fun {H' x} hx => ptI (ns := [m, l, g]) hx
        cases gv
        · refine ⟨_, rfl, _, "tuple", "tuple", rfl, tyS_tup hp, .inr (.inr (.inr rfl)), _, rfl, iteB1 rfl ⟨_, rfl, p, _, rfl, .inr (SqT.of hp), rfl, _, rfl, iteB1 rfl ⟨_, rfl, p, _, _, _, rfl, rfl, SqT.of hp, rfl, by show 2 ≤ _; omega, fun t2 ht2 => ⟨t2, pws, rfl, SqT.of upd_same, .inl rfl, _, rfl, iteB1 rfl ?_⟩⟩⟩⟩
          have s1 := same_new (o := HO.tup [V.str (Str.ofString "give"), V.str (Str.ofString "copy")]) ht2
          have hp1 := s1 _ _ hp
          generalize upd H t2 (HO.tup [V.str (Str.ofString "give"), V.str (Str.ofString "copy")]) = H1 at s1 hp1 ⊢
          refine ⟨_, rfl, _, rfl, p, _, rfl, SqT.of hp1, fun z => (by have := z.1; revert this; show HT.sIx 4 0 (some 1) = 0 → False; decide), fun t3 ht3 => ?_⟩
          have s2 := same_new (o := HO.tup [V.int m, V.int l, V.int g]) ht3
          refine ⟨t3, [V.int m, V.int l, V.int g], rfl, upd_same, by show 3 ≤ 10; decide, fun x hx => ptI hx, fun H3 s3 => ?_⟩
          exact q _ (s1.trans (s2.trans s3))
        · refine ⟨_, rfl, _, "tuple", "tuple", rfl, tyS_tup hp, .inr (.inr (.inr rfl)), _, rfl, iteB1 rfl ⟨_, rfl, p, _, rfl, .inr (SqT.of hp), rfl, _, rfl, iteB1 rfl ⟨_, rfl, p, _, _, _, rfl, rfl, SqT.of hp, rfl, by show 2 ≤ _; omega, fun t2 ht2 => ⟨t2, pws, rfl, SqT.of upd_same, .inl rfl, _, rfl, iteB1 rfl ?_⟩⟩⟩⟩
          have s1 := same_new (o := HO.tup [V.str (Str.ofString "give"), V.str (Str.ofString "copy")]) ht2
          have hp1 := s1 _ _ hp
          generalize upd H t2 (HO.tup [V.str (Str.ofString "give"), V.str (Str.ofString "copy")]) = H1 at s1 hp1 ⊢
          refine ⟨_, rfl, _, rfl, p, _, rfl, SqT.of hp1, fun z => (by have := z.1; revert this; show HT.sIx 4 0 (some 1) = 0 → False; decide), fun t3 ht3 => ?_⟩
          have s2 := same_new (o := HO.tup [V.int m, V.int l, V.int g]) ht3
          refine ⟨t3, [V.int m, V.int l, V.int g], rfl, upd_same, by show 3 ≤ 10; decide, fun x hx => ptI hx, fun H3 s3 => ?_⟩
          exact q _ (s1.trans (s2.trans s3))
    · rcases part_tup hn.1 with ⟨p, xs, rfl, hp⟩ | ⟨t, ht, hs⟩
      · obtain ⟨l6, hps, np, nd⟩ := hn.2 p xs rfl hp
        refine ⟨_, rfl, _, "tuple", "tuple", rfl, tyS_tup hp, .inr (.inr (.inr rfl)), _, rfl, iteB1 rfl ⟨_, rfl, p, _, rfl, .inr (SqT.of hp), rfl, _, rfl, iteB (fun c => ?_) (fun c => q H (Same.refl _))⟩⟩
        obtain ⟨x0, x1, x2, x3, rfl⟩ := four (of_len c)
        have h0 : partV H x0 := hps x0 (by simp)
        refine ⟨_, rfl, p, _, _, _, rfl, rfl, SqT.of hp, rfl, by show 2 ≤ _; omega, fun t2 ht2 => ⟨t2, pws, rfl, SqT.of upd_same, part_same h0 (same_new ht2), _, rfl, iteB (fun c2 => ?_) (fun c2 => q _ (same_new ht2))⟩⟩
        have s1 := same_new (o := HO.tup [V.str (Str.ofString "give"), V.str (Str.ofString "copy")]) ht2
        have hp1 := s1 _ _ hp
        generalize upd H t2 (HO.tup [V.str (Str.ofString "give"), V.str (Str.ofString "copy")]) = H1 at s1 hp1 ⊢
        refine ⟨_, rfl, _, rfl, p, _, rfl, SqT.of hp1, fun z => (by have := z.1; revert this; show HT.sIx 4 0 (some 1) = 0 → False; decide), fun t3 ht3 => ?_⟩
        have s2 := same_new (o := HO.tup [x1, x2, x3]) ht3
        refine ⟨t3, [x1, x2, x3], rfl, upd_same, by show 3 ≤ 10; decide, fun x hx => part_same (hps x (List.mem_cons_of_mem _ hx)) (s1.trans s2), fun H3 s3 => ?_⟩
        have e : (inV x0 (pws.map V.str) && [x1, x2, x3].all isI) = false := np
        rw [show inV x0 (pws.map V.str) = true from c2, Bool.true_and] at e
        rw [e]
        exact q _ (s1.trans (s2.trans s3))
      · exact ⟨_, rfl, _, t, "tuple", rfl, ht, .inr (.inr (.inr rfl)), _, rfl, iteB0 hs (q H (Same.refl _))⟩
theorem sc_is_drop : FnScope ["thing"] ["thing"] (defScope s_is_drop) := ⟨rfl, rfl, rfl, by decide +kernel, rfl, by decide +kernel, by decide +kernel⟩
theorem ok_is_drop (T : Tx K mg a) : FnOk P w K mg base CX0 3 a.a_is_drop a.d_is_drop ["thing"] (spIsDropW) := by
  have G_are_wholes := @ok_are_wholes P w _ _ base _ T
  refine T.F_is_drop.ok sc_is_drop (fun vs H Q E h => ?_) (fun cdv A outer s H vs Q E hr h => ?_)
  · obtain ⟨_, rfl, _⟩ := h; rfl
  · have nd := sc_is_drop.nd
    have hu := hr.units
    obtain ⟨y, rfl, h⟩ := h
    refine ⟨_, (@bl_out _ _ _ (@bl_1 _ _ _ (@ps_ret _ _ _ _ (@pe_and _ _ _ _ _ _ _ (pe_callB (call_isinst) (by rfl) T.b_isinstance PyProof.Rows.boot_isinstance (@pa_out _ _ _ (@pa_c _ _ _ _ _ (pv 0) (@pa_c _ _ _ _ _ (pe_bltn (v := V.ty "tuple") rfl T.b_tuple PyProof.Rows.boot_tuple rfl) pa_n rfl) rfl))) (@pe_and _ _ _ _ _ _ _ (@pe_cmpR _ _ _ _ _ _ _ _ op_eq (pe_callB (call_len_seq' rfl) (by rfl) T.b_len PySem.boot_len (@pa_out _ _ _ (@pa_c _ _ _ _ _ (pv 0) pa_n rfl))) pe_int (nomark _)) (@pe_and _ _ _ _ _ _ _ (@pe_cmpR _ _ _ _ _ _ _ _ (op_eqW hu) (@pe_ix _ _ _ _ _ _ _ (ix_tup' rfl) (pv 0) pe_int (fun _ _ => rfl)) pe_str (nomark _)) (@pe_one _ _ _ _ _ (pe_call G_are_wholes (hr.mono (by decide)) rfl T.m_are_wholes T.k_are_wholes T.i_are_wholes .nil pass0 (@pa_out _ _ _ (@pa_c _ _ _ _ _ (@pe_slice _ _ _ _ _ _ _ _ _ _ (sl_tup' rfl) (pv 0) (@po_some _ _ _ pe_int) po_none) pa_n rfl)))))))))), ?_⟩
    have line := line9
    rcases h with ⟨l, w0, ⟨p, rfl, hp⟩, q⟩ | ⟨hn, q⟩
    · refine ⟨_, rfl, _, "tuple", "tuple", rfl, tyS_tup hp, .inr (.inr (.inr rfl)), _, rfl, iteB1 rfl ⟨_, rfl, p, _, rfl, .inr (SqT.of hp), rfl, _, rfl, iteB1 rfl ⟨_, rfl, p, _, _, _, rfl, rfl, SqT.of hp, rfl, _, rfl, .inl rfl, _, rfl, iteB1 rfl ?_⟩⟩⟩
      refine ⟨_, rfl, _, rfl, p, _, rfl, SqT.of hp, fun z => (by have := z.1; revert this; show HT.sIx 3 0 (some 1) = 0 → False; decide), fun t3 ht3 => ?_⟩
      have s2 := same_new (o := HO.tup [V.int l, V.int w0]) ht3
      exact ⟨t3, [V.int l, V.int w0], rfl, upd_same, by show 2 ≤ 10; decide, (fun x hx => by obtain ⟨i, _, rfl⟩ := List.mem_map.mp (show x ∈ [l, w0].map V.int from hx); exact .inl rfl), fun H3 s3 => q _ (s2.trans s3)⟩
    · rcases part_tup hn.1 with ⟨p, xs, rfl, hp⟩ | ⟨t, ht, hs⟩
      · obtain ⟨l6, hps, np, nd⟩ := hn.2 p xs rfl hp
        refine ⟨_, rfl, _, "tuple", "tuple", rfl, tyS_tup hp, .inr (.inr (.inr rfl)), _, rfl, iteB1 rfl ⟨_, rfl, p, _, rfl, .inr (SqT.of hp), rfl, _, rfl, iteB (fun c => ?_) (fun c => q H (Same.refl _))⟩⟩
        obtain ⟨x0, x1, x2, rfl⟩ := three (of_len c)
        have h0 : partV H x0 := hps x0 (by simp)
        refine ⟨_, rfl, p, _, _, _, rfl, rfl, SqT.of hp, rfl, _, rfl, h0, _, rfl, iteB (fun c2 => ?_) (fun c2 => q _ (Same.refl _))⟩
        refine ⟨_, rfl, _, rfl, p, _, rfl, SqT.of hp, fun z => (by have := z.1; revert this; show HT.sIx 3 0 (some 1) = 0 → False; decide), fun t3 ht3 => ?_⟩
        have s2 := same_new (o := HO.tup [x1, x2]) ht3
        refine ⟨t3, [x1, x2], rfl, upd_same, by show 2 ≤ 10; decide, fun x hx => part_same (hps x (List.mem_cons_of_mem _ hx)) s2, fun H3 s3 => ?_⟩
        have e : (eqV (.str (Str.ofString "drop")) x0 && [x1, x2].all isI) = false := nd
        rw [show eqV (.str (Str.ofString "drop")) x0 = true from c2, Bool.true_and] at e
        rw [e]
        exact q _ (s2.trans s3)
      · exact ⟨_, rfl, _, t, "tuple", rfl, ht, .inr (.inr (.inr rfl)), _, rfl, iteB0 hs (q H (Same.refl _))⟩
theorem sc_Trip_takes_room : FnScope ["self", "letter", "walker", "sender", "since", "wish", "last"] ["self", "letter", "walker"] (defScope s_Trip_takes_room) := ⟨rfl, rfl, rfl, by decide +kernel, rfl, by decide +kernel, by decide +kernel⟩
theorem ok_Trip_takes_room (T : Tx K mg a) : FnOk P w K mg base CX0 1 a.a_Trip_takes_room a.d_Trip_takes_room ["self", "letter", "walker"] (spTakes a.c_Trip) := by
  refine T.F_Trip_takes_room.ok sc_Trip_takes_room (fun vs H Q E h => ?_) (fun cdv A outer s H vs Q E hr h => ?_)
  · obtain ⟨_, _, _, _, _, _, _, _, _, _, _, _, _, _, _, _, _, rfl, _⟩ := h; rfl
  · have nd := sc_Trip_takes_room.nd
    have hu := hr.units
    obtain ⟨x, b, dx, lL, lH, lA, lP, lD, ls, hs, os, ns, r, ds, n, w0, l, rfl, t, hn, q⟩ := h
    refine ⟨_, (@bl_out _ _ _ (@bl_c _ _ _ _ _ _ (ps_asg (@pe_ix _ _ _ _ _ _ _ (ix_list' rfl) (pe_fld (pv 0) rfl) (pv 1) (fun _ _ => rfl)) (pg_tup' (n := 4) rfl rfl (pgs_cons (pg_name (i := 3) nd rfl (by first | exact Or.inl rfl | exact Or.inr rfl)) (pgs_cons (pg_name (i := 4) nd rfl (by first | exact Or.inl rfl | exact Or.inr rfl)) (pgs_cons (pg_name (i := 5) nd rfl (by first | exact Or.inl rfl | exact Or.inr rfl)) (pgs_cons (pg_name (i := 6) nd rfl (by first | exact Or.inl rfl | exact Or.inr rfl)) pgs_nil)))))) (@bl_1 _ _ _ (@ps_ret _ _ _ _ (@pe_cmpR _ _ _ _ _ _ _ _ op_notIn_seq (pv 2) (@pe_tup _ _ _ _ _ (@pa_out _ _ _ (@pa_c _ _ _ _ _ (pv 3) (@pa_c _ _ _ _ _ (pv 5) pa_n rfl) rfl))) rfl))))), ?_⟩
    have line := line9
    have hl := t.rows l (List.mem_of_getElem? hn)
    have at1 : atI (ls.map fun l => V.ref l.1) (n : Int) = some (V.ref l.1) := atI_nat (by rw [List.getElem?_map, hn]; rfl)
    refine ⟨_, rfl, x, _, dx, _, _, rfl, t.ins, T.L_Trip, T.n_Trip_letters, rfl, _, rfl, lL, _, _, _, rfl, rfl, SqL.of t.lts, at1, l.1, _, rfl, SqT.of hl, rfl, _, _, rfl, _, _, rfl, _, _, rfl, _, _, rfl, rfl, ?_⟩
    refine ⟨_, rfl, _, rfl, _, rfl, by show 2 ≤ _; omega, fun t2 ht2 => ⟨t2, _, rfl, .inr (SqT.of upd_same), rfl, rfl, ?_⟩⟩
    have e : inV (V.int w0) [V.int (l.2.s : Int), V.int (l.2.w : Int)] = (decide (w0 = l.2.s) || decide (w0 = l.2.w)) := by
      simp [inV, eqV_int]
      congr 1 <;> exact decide_eq_decide.mpr ⟨Eq.symm, Eq.symm⟩
    show Q (.bl (!inV (V.int w0) [V.int (l.2.s : Int), V.int (l.2.w : Int)])) _
    rw [e]
    exact q _ (same_new ht2)
theorem sc_Trip_note_arrival : FnScope ["self", "letter", "walker", "time", "sender", "since", "wish", "last"] ["self", "letter", "walker", "time"] (defScope s_Trip_note_arrival) := ⟨rfl, rfl, rfl, by decide +kernel, rfl, by decide +kernel, by decide +kernel⟩
theorem ok_Trip_note_arrival (T : Tx K mg a) : FnOk P w K mg base CX0 1 a.a_Trip_note_arrival a.d_Trip_note_arrival ["self", "letter", "walker", "time"] (spNote a.c_Trip) := by
  refine T.F_Trip_note_arrival.ok sc_Trip_note_arrival (fun vs H Q E h => ?_) (fun cdv A outer s H vs Q E hr h => ?_)
  · obtain ⟨_, _, _, _, _, _, _, _, _, _, _, _, _, _, _, _, _, _, rfl, _⟩ := h; rfl
  · have nd := sc_Trip_note_arrival.nd
    have hu := hr.units
    obtain ⟨x, b, dx, lL, lH, lA, lP, lD, ls, hs, os, ns, r, ds, n, w0, t0, l, rfl, t, hn, ho, q⟩ := h
    refine ⟨_, (@bl_out _ _ _ (@bl_c _ _ _ _ _ _ (ps_asg (@pe_ix _ _ _ _ _ _ _ (ix_list' rfl) (pe_fld (pv 0) rfl) (pv 1) (fun _ _ => rfl)) (pg_tup' (n := 4) rfl rfl (pgs_cons (pg_name (i := 4) nd rfl (by first | exact Or.inl rfl | exact Or.inr rfl)) (pgs_cons (pg_name (i := 5) nd rfl (by first | exact Or.inl rfl | exact Or.inr rfl)) (pgs_cons (pg_name (i := 6) nd rfl (by first | exact Or.inl rfl | exact Or.inr rfl)) (pgs_cons (pg_name (i := 7) nd rfl (by first | exact Or.inl rfl | exact Or.inr rfl)) pgs_nil)))))) (@bl_1 _ _ _ (@ps_if _ _ _ _ _ _ _ _ (@PW.pt _ _ _ (@pw_and _ _ _ _ _ _ _ (@pt_cmpR _ _ _ _ _ _ _ _ op_eq (pv 2) (pv 6) (nomark _)) (@pw_and _ _ _ _ _ _ _ (@pt_cmpR _ _ _ _ _ _ _ _ op_le (pv 3) (pv 7) (nomark _)) (@pw_and1 _ _ _ _ (pt_cmp (@pc_isN _ _ _ _ _ (@pe_ix _ _ _ _ _ _ _ (ix_list' rfl) (pe_fld (pv 0) rfl) (pv 1) (fun _ _ => rfl)))))))) (@bl_out _ _ _ (@bl_1 _ _ _ (ps_asg (pv 3) (pg_sub (pe_fld (pv 0) rfl) (pv 1) set_list)))) pss_nil)))), ?_⟩
    have line := line9
    have hl := t.rows l (List.mem_of_getElem? hn)
    have at1 : atI (ls.map fun l => V.ref l.1) (n : Int) = some (V.ref l.1) := atI_nat (by rw [List.getElem?_map, hn]; rfl)
    refine ⟨_, rfl, x, _, dx, _, _, rfl, t.ins, T.L_Trip, T.n_Trip_letters, rfl, _, rfl, lL, _, _, _, rfl, rfl, SqL.of t.lts, at1, l.1, _, rfl, SqT.of hl, rfl, _, _, rfl, _, _, rfl, _, _, rfl, _, _, rfl, rfl, ?_⟩
    obtain ⟨o, eo⟩ : ∃ o, os[n]? = some o := ⟨_, List.getElem?_eq_getElem ho⟩
    have at2 : atI (os.map oV) (n : Int) = some (oV o) := atI_nat (by rw [List.getElem?_map, eo]; rfl)
    have stay : ¬ (w0 = l.2.w ∧ t0 ≤ l.2.z ∧ os[n]? = some none) → Q .non H := fun c => q H (fun _ _ _ e => e) (by rw [noteA, if_neg c]; exact t.arr)
    refine ⟨_, rfl, _, rfl, rfl, _, rfl, ?_⟩
    by_cases c1 : w0 = l.2.w
    · refine iteB1 (by rw [c1]; simp) ⟨_, rfl, _, rfl, _, _, rfl, rfl, _, rfl, iteD (fun c2 => ?_) (fun c2 => stay fun c => c2 c.2.1)⟩
      refine ⟨_, rfl, x, _, dx, _, _, rfl, t.ins, T.L_Trip, T.n_Trip_arrivals, rfl, _, rfl, lA, _, _, _, rfl, rfl, SqL.of t.arr, at2, _, rfl, ?_⟩
      cases o with
      | some i => exact iteB0 rfl (stay fun c => by rw [eo] at c; cases c.2.2)
      | none =>
        refine iteB1 rfl ⟨_, rfl, _, rfl, x, _, dx, _, _, rfl, t.ins, T.L_Trip, T.n_Trip_arrivals, rfl, _, rfl, lA, _, _, n, rfl, rfl, t.arr, by rw [List.length_map]; unfold ixN; rw [if_pos (by omega), if_pos (by omega)]; simp, ?_⟩
        refine q _ But.set ?_
        rw [upd_same, noteA, if_pos ⟨c1, c2, eo⟩, List.map_set]
        rfl
    · exact iteB0 (by simp [c1]) (stay fun c => c1 c.1)
theorem sc_Trip___init__ : FnScope ["self", "book", "letters", "number", "sender", "since", "wish", "last"] ["self", "book", "letters"] (defScope s_Trip___init__) := ⟨rfl, rfl, rfl, by decide +kernel, rfl, by decide +kernel, by decide +kernel⟩
theorem ok_Trip___init__ (T : Tx K mg a) : FnOk P w K mg base CX0 2 a.a_Trip___init__ a.d_Trip___init__ ["self", "book", "letters"] (spInit2 a.c_Trip) := by
  have G_Trip_note_arrival := @ok_Trip_note_arrival P w _ _ base _ T
  refine T.F_Trip___init__.ok sc_Trip___init__ (fun vs H Q E h => ?_) (fun cdv A outer s H vs Q E hr h => ?_)
  · obtain ⟨_, _, _, _, _, _, _, _, _, rfl, _⟩ := h; rfl
  · have nd := sc_Trip___init__.nd
    have hu := hr.units
    obtain ⟨x, dx, b, l0, ls, rooms, tr, tm, ps, rfl, hx, hb, gd, rm, hl0, hrw, n41, q⟩ := h
    refine ⟨_, (@bl_out _ _ _ (@bl_c _ _ _ _ _ _ (ps_fld (pv 0) (pv 1) rfl) (@bl_c _ _ _ _ _ _ (ps_fld (pv 0) (pe_callTy (call_list_of' rfl) (by rfl) T.b_list PyProof.Rows.boot_list (@pa_out _ _ _ (@pa_c _ _ _ _ _ (pv 2) pa_n rfl))) rfl) (@bl_c _ _ _ _ _ _ (ps_fld (pv 0) (pe_comp (own := ["sender", "since", "wish", "last"]) (caps := []) rfl (show CompScope ["sender", "since", "wish", "last"] [] ["self", "book", "letters", "number", "sender", "since", "wish", "last"] (defScope s_Trip___init__) _ from ⟨rfl, by decide +kernel, by decide +kernel, by decide +kernel, by decide +kernel⟩) (@pi_list' _ _ _ _ _ rfl (pe_fld (pv 0) rfl)) (fun _ _ _ _ => (pg_tup' (n := 4) rfl rfl (pgs_cons (pg_name (i := 0) (show List.Nodup (["sender", "since", "wish", "last"] : List Str) from by decide +kernel) rfl (by first | exact Or.inl rfl | exact Or.inr rfl)) (pgs_cons (pg_name (i := 1) (show List.Nodup (["sender", "since", "wish", "last"] : List Str) from by decide +kernel) rfl (by first | exact Or.inl rfl | exact Or.inr rfl)) (pgs_cons (pg_name (i := 2) (show List.Nodup (["sender", "since", "wish", "last"] : List Str) from by decide +kernel) rfl (by first | exact Or.inl rfl | exact Or.inr rfl)) (pgs_cons (pg_name (i := 3) (show List.Nodup (["sender", "since", "wish", "last"] : List Str) from by decide +kernel) rfl (by first | exact Or.inl rfl | exact Or.inr rfl)) pgs_nil)))))) (fun _ _ _ _ => pts_nil) (fun _ _ _ _ => (pe_disp (pps_cons (pv 0) (pv 1) pps_nil) rfl rfl (by intro h; cases h) (by decide)))) rfl) (@bl_c _ _ _ _ _ _ (ps_fld (pv 0) (pe_comp (own := ["letter"]) (caps := []) rfl (show CompScope ["letter"] [] ["self", "book", "letters", "number", "sender", "since", "wish", "last"] (defScope s_Trip___init__) _ from ⟨rfl, by decide +kernel, by decide +kernel, by decide +kernel, by decide +kernel⟩) (@pi_list' _ _ _ _ _ rfl (pe_fld (pv 0) rfl)) (fun _ _ _ _ => (pg_name (i := 0) (show List.Nodup (["letter"] : List Str) from by decide +kernel) rfl (by first | exact Or.inl rfl | exact Or.inr rfl))) (fun _ _ _ _ => pts_nil) (fun _ _ _ _ => pe_non)) rfl) (@bl_c _ _ _ _ _ _ (ps_fld (pv 0) (pe_comp (own := ["meeting"]) (caps := []) rfl (show CompScope ["meeting"] [] ["self", "book", "letters", "number", "sender", "since", "wish", "last"] (defScope s_Trip___init__) _ from ⟨rfl, by decide +kernel, by decide +kernel, by decide +kernel, by decide +kernel⟩) (@pi_tup'' _ _ _ _ _ rfl (@pe_ix _ _ _ _ _ _ _ (ix_tup' rfl) (pv 1) pe_int (fun _ _ => rfl))) (fun _ _ _ _ => (pg_name (i := 0) (show List.Nodup (["meeting"] : List Str) from by decide +kernel) rfl (by first | exact Or.inl rfl | exact Or.inr rfl))) (fun _ _ _ _ => pts_nil) (fun _ _ _ _ => pe_int)) rfl) (@bl_c _ _ _ _ _ _ (ps_fld (pv 0) pe_int rfl) (@bl_c _ _ _ _ _ _ (ps_fld (pv 0) (@pe_lst _ _ _ _ pa_nil) rfl) (@bl_1 _ _ _ (ps_for PassesOwn.never rfl (pi_enumL rfl rfl T.b_enumerate (@pa_out _ _ _ (@pa_c _ _ _ _ _ (pe_fld (pv 0) rfl) pa_n rfl))) (pg_tup' (n := 2) rfl rfl (pgs_cons (pg_name (i := 3) nd rfl (by first | exact Or.inl rfl | exact Or.inr rfl)) (pgs_cons (pg_tup' (n := 4) rfl rfl (pgs_cons (pg_name (i := 4) nd rfl (by first | exact Or.inl rfl | exact Or.inr rfl)) (pgs_cons (pg_name (i := 5) nd rfl (by first | exact Or.inl rfl | exact Or.inr rfl)) (pgs_cons (pg_name (i := 6) nd rfl (by first | exact Or.inl rfl | exact Or.inr rfl)) (pgs_cons (pg_name (i := 7) nd rfl (by first | exact Or.inl rfl | exact Or.inr rfl)) pgs_nil))))) pgs_nil))) (@bl_out _ _ _ (@bl_1 _ _ _ (ps_expr (pe_meth (pv 0) T.L_Trip T.M_Trip_note_arrival G_Trip_note_arrival (hr.mono (by decide)) T.i_Trip_note_arrival .nil pass0 (@pa_out _ _ _ (@pa_c _ _ _ _ _ (pv 3) (@pa_c _ _ _ _ _ (pv 4) (@pa_c _ _ _ _ _ (pv 5) pa_n rfl) rfl) rfl)))))))))))))))), ?_⟩
    have h60 := gd.len
    have line := line9
    refine ⟨_, rfl, _, rfl, x, _, dx, _, rfl, hx, T.L_Trip, T.n_Trip_book, by decide, ?_⟩
    have b1 : But x H (upd H x (.ins a.c_Trip dx (putF "book" (.ref b) []))) := But.set
    have i1 : upd H x (.ins a.c_Trip dx (putF "book" (.ref b) [])) x = some (.ins a.c_Trip dx [("book", .ref b)]) := upd_same
    generalize upd H x (.ins a.c_Trip dx (putF "book" (.ref b) [])) = H1 at b1 i1 ⊢
    have tu : ∀ H', But x H H' → Tups H H' := fun H' z c xs e => z c _ (ne_of e hx (by intro z; cases z)) e
    have n0 : l0 ≠ x := ne_of hl0 hx (by intro z; cases z)
    refine ⟨_, rfl, l0, _, rfl, .inl (SqL.of (b1 _ _ n0 hl0)), fun lL hL => ?_⟩
    have nL : lL ≠ x := (ne_of_none i1 hL).symm
    have s2 := same_new (o := HO.lst (ls.map fun l => V.ref l.1)) hL
    have kL : upd H1 lL (HO.lst (ls.map fun l => V.ref l.1)) lL = some (.lst (ls.map fun l => V.ref l.1)) := upd_same
    have i2 := s2 _ _ i1
    generalize upd H1 lL (HO.lst (ls.map fun l => V.ref l.1)) = H2 at s2 kL i2 ⊢
    refine ⟨_, rfl, x, _, dx, _, rfl, i2, T.L_Trip, T.n_Trip_letters, by show 1 < 1000; decide, ?_⟩
    have b3 : But x H (upd H2 x (.ins a.c_Trip dx (putF "letters" (.ref lL) [("book", .ref b)]))) := (b1.trans (Same.but s2)).trans But.set
    have i3 : upd H2 x (.ins a.c_Trip dx (putF "letters" (.ref lL) [("book", .ref b)])) x = some (.ins a.c_Trip dx [("book", .ref b), ("letters", .ref lL)]) := upd_same
    replace kL : upd H2 x (.ins a.c_Trip dx (putF "letters" (.ref lL) [("book", .ref b)])) lL = some (.lst (ls.map fun l => V.ref l.1)) := by rw [upd_ne nL]; exact kL
    generalize upd H2 x (.ins a.c_Trip dx (putF "letters" (.ref lL) [("book", .ref b)])) = H3 at b3 i3 kL ⊢
    have rw3 : ∀ l ∈ ls, H3 l.1 = some (.tup (letRow l.2)) := fun l hl => tu _ b3 _ _ (hrw l hl)
    refine ⟨_, rfl, x, _, dx, _, _, rfl, i3, T.L_Trip, T.n_Trip_letters, rfl, lL, rfl, ⟨_, SqL.of kL⟩, ?_⟩
    refine comp_list (K := K) (a := lL) (xs := ls.map fun l => V.ref l.1) (fun i τ acc H5 => (∃ t0 t1 t2 t3, τ = [t0, t1, t2, t3]) ∧ ∃ hs : List (Addr × List (Int × Int)), acc = (hs.map fun h => V.ref h.1) ∧ hs.map (·.2) = (ls.take i).map (fun l => [((l.2.s : Int), l.2.a)]) ∧ Same H3 H5 ∧ (∀ h ∈ hs, H3 h.1 = none ∧ H5 h.1 = some (.dK (kvV h.2))) ∧ (hs.map (·.1)).Nodup) ⟨⟨_, _, _, _, rfl⟩, [], rfl, rfl, Same.refl _, (fun _ h => nomatch h), List.nodup_nil⟩ (by rw [List.length_map]; omega) ?_ ?_ ?_
    · rintro i τ acc H5 ⟨_, hs, rfl, e, s5, _⟩
      exact ⟨by rw [List.length_map]; have := congrArg List.length e; simp at this; omega, SqL.of (s5 _ _ kL)⟩
    · rintro i v τ acc H5 C hv ⟨⟨t0, t1, t2, t3, rfl⟩, hs, rfl, e, s5, kh, hnd⟩ hC
      obtain ⟨l1, hl1, rfl⟩ := map_get hv
      refine ⟨l1.1, _, rfl, SqT.of (s5 _ _ (rw3 l1 (List.mem_of_getElem? hl1))), rfl, _, _, rfl, _, _, rfl, _, _, rfl, _, _, rfl, rfl, fun p hp => ⟨_, rfl, _, rfl, upd_same, [(Sum.inl (l1.2.s : Int), V.int l1.2.a)], rfl, by show 1 ≤ 15; decide, ?_⟩⟩
      have s6 := same_twice (o1 := HO.dK []) (o2 := HO.dK (mergeK [] [(Sum.inl (l1.2.s : Int), V.int l1.2.a)])) hp
      refine hC _ _ _ ⟨⟨_, _, _, _, rfl⟩, hs ++ [(p, [((l1.2.s : Int), l1.2.a)])], by rw [List.map_append]; rfl, ?_, s5.trans s6, fun h hh => ?_, ?_⟩
      · rw [List.map_append, e, take_snoc hl1, List.map_append]; rfl
      · rcases List.mem_append.mp hh with hh | hh
        · exact ⟨(kh h hh).1, s6 _ _ (kh h hh).2⟩
        · cases List.mem_singleton.mp hh
          exact ⟨s5.free hp, by rw [upd_same]; rfl⟩
      · rw [List.map_append]
        refine List.nodup_append.mpr ⟨hnd, by simp, fun c hc d hd => ?_⟩
        obtain ⟨h, hh, rfl⟩ := List.mem_map.mp hc
        cases List.mem_singleton.mp hd
        exact ne_of_none (kh h hh).2 hp
    · rintro τ acc H5 ⟨⟨t0, t1, t2, t3, rfl⟩, hs, rfl, e, s5, kh, hnd⟩ lH hH
      rw [List.length_map, List.take_length] at e
      have s6 := same_new (o := HO.lst (hs.map fun h => V.ref h.1)) hH
      have s36 := s5.trans s6
      have kH : upd H5 lH (HO.lst (hs.map fun h => V.ref h.1)) lH = some (.lst (hs.map fun h => V.ref h.1)) := upd_same
      replace kh : ∀ h ∈ hs, H3 h.1 = none ∧ upd H5 lH (HO.lst (hs.map fun h => V.ref h.1)) h.1 = some (.dK (kvV h.2)) := fun h hh => ⟨(kh h hh).1, s6 _ _ (kh h hh).2⟩
      have n3H : H3 lH = none := s5.free hH
      have fh : ∀ h ∈ hs, H3 h.1 = none := fun h hh => (kh h hh).1
      generalize upd H5 lH (HO.lst (hs.map fun h => V.ref h.1)) = H6 at s6 s36 kH kh ⊢
      have i6 := s36 _ _ i3
      refine ⟨_, rfl, x, _, dx, _, rfl, i6, T.L_Trip, T.n_Trip_holders, by show 2 < 1000; decide, ?_⟩
      have nH : lH ≠ x := (ne_of_none i3 n3H).symm
      have nLH : lH ≠ lL := (ne_of_none kL n3H).symm
      have nh : ∀ h ∈ hs, h.1 ≠ x := fun h hh => (ne_of_none i3 (kh h hh).1).symm
      replace kL := s36 _ _ kL
      have bs7 : But x H6 (upd H6 x (.ins a.c_Trip dx (putF "holders" (.ref lH) [("book", .ref b), ("letters", .ref lL)]))) := But.set
      have i7 : upd H6 x (.ins a.c_Trip dx (putF "holders" (.ref lH) [("book", .ref b), ("letters", .ref lL)])) x = some (.ins a.c_Trip dx [("book", .ref b), ("letters", .ref lL), ("holders", .ref lH)]) := upd_same
      generalize upd H6 x (.ins a.c_Trip dx (putF "holders" (.ref lH) [("book", .ref b), ("letters", .ref lL)])) = H7 at bs7 i7 ⊢
      have b7 : But x H H7 := (b3.trans (Same.but s36)).trans bs7
      replace kL := bs7 _ _ nL kL
      replace kH := bs7 _ _ nH kH
      replace kh : ∀ h ∈ hs, H7 h.1 = some (.dK (kvV h.2)) := fun h hh => bs7 _ _ (nh h hh) (kh h hh).2
      refine ⟨_, rfl, x, _, dx, _, _, rfl, i7, T.L_Trip, T.n_Trip_letters, rfl, lL, rfl, ⟨_, SqL.of kL⟩, ?_⟩
      refine comp_list (K := K) (a := lL) (xs := ls.map fun l => V.ref l.1) (fun i τ acc H8 => (∃ t0, τ = [t0]) ∧ acc = List.replicate i V.non ∧ H8 = H7) ⟨⟨_, rfl⟩, rfl, rfl⟩ (by rw [List.length_map]; omega) ?_ ?_ ?_
      · rintro i τ acc H8 ⟨_, rfl, rfl⟩
        exact ⟨by simp, SqL.of kL⟩
      · rintro i v τ acc H8 C hv ⟨⟨t0, rfl⟩, rfl, rfl⟩ hC
        exact hC _ _ _ ⟨⟨_, rfl⟩, by rw [List.replicate_succ'], rfl⟩
      · rintro τ acc H8 ⟨⟨t0, rfl⟩, rfl, rfl⟩ lA hA
        rw [List.length_map] at *
        have s9 := same_new (o := HO.lst (List.replicate ls.length V.non)) hA
        have kA : upd H8 lA (HO.lst (List.replicate ls.length V.non)) lA = some (.lst (List.replicate ls.length V.non)) := upd_same
        have nA : lA ≠ x := (ne_of_none i7 hA).symm
        have nAL : lA ≠ lL := (ne_of_none kL hA).symm
        have nAH : lA ≠ lH := (ne_of_none kH hA).symm
        have nAh : ∀ h ∈ hs, h.1 ≠ lA := fun h hh => ne_of_none (kh h hh) hA
        generalize upd H8 lA (HO.lst (List.replicate ls.length V.non)) = H9 at s9 kA ⊢
        refine ⟨_, rfl, x, _, dx, _, rfl, s9 _ _ i7, T.L_Trip, T.n_Trip_arrivals, by show 3 < 1000; decide, ?_⟩
        have bsA : But x H9 (upd H9 x (.ins a.c_Trip dx (putF "arrivals" (.ref lA) [("book", .ref b), ("letters", .ref lL), ("holders", .ref lH)]))) := But.set
        have iA : upd H9 x (.ins a.c_Trip dx (putF "arrivals" (.ref lA) [("book", .ref b), ("letters", .ref lL), ("holders", .ref lH)])) x = some (.ins a.c_Trip dx [("book", .ref b), ("letters", .ref lL), ("holders", .ref lH), ("arrivals", .ref lA)]) := upd_same
        generalize upd H9 x (.ins a.c_Trip dx (putF "arrivals" (.ref lA) [("book", .ref b), ("letters", .ref lL), ("holders", .ref lH)])) = HA at bsA iA ⊢
        have bA : But x H HA := (b7.trans (Same.but s9)).trans bsA
        replace kL := bsA _ _ nL (s9 _ _ kL)
        replace kH := bsA _ _ nH (s9 _ _ kH)
        replace kh : ∀ h ∈ hs, HA h.1 = some (.dK (kvV h.2)) := fun h hh => bsA _ _ (nh h hh) (s9 _ _ (kh h hh))
        replace kA := bsA _ _ nA kA
        have hbA := hb.tups (tu _ bA)
        refine ⟨_, rfl, b, _, _, _, rfl, rfl, SqT.of hbA.book, rfl, tm, rfl, ⟨_, SqT.of hbA.meets⟩, ?_⟩
        refine comp_tup (K := K) (a := tm) (xs := ps.map fun a => V.ref a.1) (fun i τ acc H8 => (∃ t0, τ = [t0]) ∧ acc = List.replicate i (V.int 0) ∧ H8 = HA) ⟨⟨_, rfl⟩, rfl, rfl⟩ (by rw [List.length_map]; omega) ?_ ?_ ?_
        · rintro i τ acc H8 ⟨_, rfl, rfl⟩
          exact ⟨by simp, SqT.of hbA.meets⟩
        · rintro i v τ acc H8 C hv ⟨⟨t0, rfl⟩, rfl, rfl⟩ hC
          exact hC _ _ _ ⟨⟨_, rfl⟩, by rw [List.replicate_succ'], rfl⟩
        · rintro τ acc H8 ⟨⟨t0, rfl⟩, rfl, rfl⟩ lP hP
          rw [List.length_map] at *
          have sB := same_new (o := HO.lst (List.replicate ps.length (V.int 0))) hP
          have kP : upd H8 lP (HO.lst (List.replicate ps.length (V.int 0))) lP = some (.lst (List.replicate ps.length (V.int 0))) := upd_same
          have nP : lP ≠ x := (ne_of_none iA hP).symm
          have nPA : lP ≠ lA := (ne_of_none kA hP).symm
          have nLP := ne_of_none kL hP
          have nHP := ne_of_none kH hP
          generalize upd H8 lP (HO.lst (List.replicate ps.length (V.int 0))) = HB at sB kP ⊢
          refine ⟨_, rfl, x, _, dx, _, rfl, sB _ _ iA, T.L_Trip, T.n_Trip_passed, by show 4 < 1000; decide, ?_⟩
          have bsC : But x HB (upd HB x (.ins a.c_Trip dx (putF "passed" (.ref lP) [("book", .ref b), ("letters", .ref lL), ("holders", .ref lH), ("arrivals", .ref lA)]))) := But.set
          have iC : upd HB x (.ins a.c_Trip dx (putF "passed" (.ref lP) [("book", .ref b), ("letters", .ref lL), ("holders", .ref lH), ("arrivals", .ref lA)])) x = some (.ins a.c_Trip dx [("book", .ref b), ("letters", .ref lL), ("holders", .ref lH), ("arrivals", .ref lA), ("passed", .ref lP)]) := upd_same
          generalize upd HB x (.ins a.c_Trip dx (putF "passed" (.ref lP) [("book", .ref b), ("letters", .ref lL), ("holders", .ref lH), ("arrivals", .ref lA)])) = HC at bsC iC ⊢
          refine ⟨_, rfl, x, _, dx, _, rfl, iC, T.L_Trip, T.n_Trip_reached, by show 5 < 1000; decide, ?_⟩
          have bsD : But x HC (upd HC x (.ins a.c_Trip dx (putF "reached" (.int 0) [("book", .ref b), ("letters", .ref lL), ("holders", .ref lH), ("arrivals", .ref lA), ("passed", .ref lP)]))) := But.set
          have iD : upd HC x (.ins a.c_Trip dx (putF "reached" (.int 0) [("book", .ref b), ("letters", .ref lL), ("holders", .ref lH), ("arrivals", .ref lA), ("passed", .ref lP)])) x = some (.ins a.c_Trip dx [("book", .ref b), ("letters", .ref lL), ("holders", .ref lH), ("arrivals", .ref lA), ("passed", .ref lP), ("reached", .int 0)]) := upd_same
          generalize upd HC x (.ins a.c_Trip dx (putF "reached" (.int 0) [("book", .ref b), ("letters", .ref lL), ("holders", .ref lH), ("arrivals", .ref lA), ("passed", .ref lP)])) = HD at bsD iD ⊢
          have bAD : But x H8 HD := ((Same.but sB).trans bsC).trans bsD
          replace kP := (bsC.trans bsD) _ _ nP kP
          have kAD := bAD _ _ nA kA
          refine ⟨Nat.zero_le _, fun lD hD => ?_⟩
          have sE := same_new (o := HO.lst []) hD
          have kD : upd HD lD (HO.lst []) lD = some (.lst []) := upd_same
          have nD : lD ≠ x := (ne_of_none iD hD).symm
          have nDA : lD ≠ lA := (ne_of_none kAD hD).symm
          have nLD := ne_of_none (bAD _ _ nL kL) hD
          have nHD := ne_of_none (bAD _ _ nH kH) hD
          have nPD := ne_of_none kP hD
          generalize upd HD lD (HO.lst []) = HE at sE kD ⊢
          refine ⟨_, rfl, x, _, dx, _, rfl, sE _ _ iD, T.L_Trip, T.n_Trip_deeds, by show 6 < 1000; decide, ?_⟩
          have bsF : But x HE (upd HE x (.ins a.c_Trip dx (putF "deeds" (.ref lD) [("book", .ref b), ("letters", .ref lL), ("holders", .ref lH), ("arrivals", .ref lA), ("passed", .ref lP), ("reached", .int 0)]))) := But.set
          have iF : upd HE x (.ins a.c_Trip dx (putF "deeds" (.ref lD) [("book", .ref b), ("letters", .ref lL), ("holders", .ref lH), ("arrivals", .ref lA), ("passed", .ref lP), ("reached", .int 0)])) x = some (.ins a.c_Trip dx [("book", .ref b), ("letters", .ref lL), ("holders", .ref lH), ("arrivals", .ref lA), ("passed", .ref lP), ("reached", .int 0), ("deeds", .ref lD)]) := upd_same
          generalize upd HE x (.ins a.c_Trip dx (putF "deeds" (.ref lD) [("book", .ref b), ("letters", .ref lL), ("holders", .ref lH), ("arrivals", .ref lA), ("passed", .ref lP), ("reached", .int 0)])) = HF at bsF iF ⊢
          have bEF : But x HD HF := (Same.but sE).trans bsF
          have bAF : But x H8 HF := bAD.trans bEF
          have bF : But x H HF := bA.trans bAF
          have lh : hs.length = ls.length := by have := congrArg List.length e; simpa using this
          have tF : TripAt a.c_Trip HF x b dx lL lH lA lP lD ls hs (List.replicate ls.length none) (List.replicate ps.length 0) 0 [] :=
            ⟨iF, bAF _ _ nL kL, fun l hl => tu _ bF _ _ (hrw l hl), bAF _ _ nH kH, fun h hh => bAF _ _ (nh h hh) (kh h hh), by rw [bAF _ _ nA kA, List.map_replicate]; rfl, by rw [bEF _ _ nP kP, List.map_replicate], bsF _ _ nD kD⟩
          have keepA : ∀ H', But lA HF H' → ∀ os', H' lA = some (.lst (os'.map oV)) → TripAt a.c_Trip H' x b dx lL lH lA lP lD ls hs os' (List.replicate ps.length 0) 0 [] := fun H' z os' ea =>
            ⟨z _ _ nA.symm tF.ins, z _ _ nAL.symm tF.lts, fun l hl => z _ _ (ne_of (tF.rows l hl) tF.arr (by intro z; cases z)) (tF.rows l hl), z _ _ nAH.symm tF.hol, fun h hh => z _ _ (nAh h hh) (tF.hols h hh), ea, z _ _ nPA tF.pas, z _ _ nDA tF.dee⟩
          refine ⟨_, rfl, x, _, dx, _, _, rfl, iF, T.L_Trip, T.n_Trip_letters, rfl, lL, rfl, ⟨_, SqL.of tF.lts⟩, ?_⟩
          refine for_enumL (K := K) (a := lL) (xs := ls.map fun l => V.ref l.1) (fun i σ HG => (∃ v3 v4 v5 v6 v7, σ = [some (.ref x), some (.ref b), some (.ref l0), v3, v4, v5, v6, v7]) ∧ But lA HF HG ∧ HG lA = some (.lst ((osTo ls i).map oV))) ⟨⟨_, _, _, _, _, rfl⟩, But.refl _ _, by rw [tF.arr, osTo_0]⟩ ?_ ?_ ?_
          · rintro i σ HG _ ⟨_, bG, kG⟩
            exact SqL.of (keepA _ bG _ kG).lts
          · rintro i v q0 σ HG hv hq ⟨⟨v3, v4, v5, v6, v7, rfl⟩, bG, kG⟩
            obtain ⟨l1, hl1, rfl⟩ := map_get hv
            have hi : i < ls.length := (List.getElem?_eq_some_iff.mp hl1).1
            have s1 := same_new (o := HO.tup [V.int (i : Int), V.ref l1.1]) hq
            have kq : upd HG q0 (HO.tup [V.int (i : Int), V.ref l1.1]) q0 = some (.tup [V.int (i : Int), V.ref l1.1]) := upd_same
            generalize upd HG q0 (HO.tup [V.int (i : Int), V.ref l1.1]) = HI at s1 kq ⊢
            have tI := (keepA _ bG _ kG).same s1
            refine ⟨q0, _, rfl, SqT.of kq, rfl, _, _, rfl, _, _, rfl, l1.1, _, rfl, SqT.of (tI.rows l1 (List.mem_of_getElem? hl1)), rfl, _, _, rfl, _, _, rfl, _, _, rfl, _, _, rfl, rfl, rfl, ?_⟩
            refine ⟨_, rfl, x, dx, _, rfl, tI.ins, rfl, _, rfl, _, rfl, _, rfl, x, b, dx, lL, lH, lA, lP, lD, ls, hs, _, _, _, _, i, _, _, l1, rfl, tI, hl1, by rw [osTo_len (by omega)]; exact hi, fun HJ bJ kJ => ?_⟩
            exact ⟨⟨_, _, _, _, _, rfl⟩, (bG.trans (Same.but s1)).trans bJ, by rw [kJ, osTo_step hl1]⟩
          · rintro σ HG ⟨⟨v3, v4, v5, v6, v7, rfl⟩, bG, kG⟩
            rw [List.length_map, osTo_all] at kG
            have n0A : H lA = none := by
              cases z : H lA with
              | none => rfl
              | some u => have := b7 _ _ nA z; rw [hA] at this; cases this
            refine q ⟨x, b, dx, lL, lH, lA, lP, lD, ls, hs, ls.map fun l => begA l.2, List.replicate ps.length 0, 0, []⟩ HG (fun c u n z => bG c u (ne_of_none z n0A) (bF c u n z)) ⟨keepA _ bG _ kG, (hb.tups (tu _ bF)).tups (fun c xs z => bG c _ (ne_of z tF.arr (by intro z; cases z)) z), gd, rm, lh, by rw [List.length_map], by rw [List.length_replicate], n41, fun h hh => ?_, Nat.zero_le _, ⟨nAL.symm, nLP, nLD, nAH.symm, nHP, nHD, nPA.symm, nDA.symm, nPD⟩, hnd⟩ ⟨rfl, rfl, rfl, e, rfl, rfl, rfl, rfl, fun c hc => ?_⟩
            · have : h.2 ∈ hs.map (·.2) := List.mem_map.mpr ⟨h, hh, rfl⟩
              rw [e] at this
              obtain ⟨l, _, el⟩ := List.mem_map.mp this
              rw [← el]; exact Nat.le_refl 1
            · rcases hc with (rfl | rfl | rfl | rfl | hc) | rfl | rfl
              · exact .inl rfl
              · exact .inr n0A
              · exact .inr (bA.free nP hP)
              · exact .inr ((bA.trans bAD).free nD hD)
              · obtain ⟨h, hh, rfl⟩ := List.mem_map.mp hc
                exact .inr (b3.free (nh h hh) (fh h hh))
              · exact .inr (b1.free nL hL)
              · exact .inr (b3.free nH n3H)
theorem sc_Trip_bag : FnScope ["self", "walker", "kept", "letter", "holders"] ["self", "walker"] (defScope s_Trip_bag) := ⟨rfl, rfl, rfl, by decide +kernel, rfl, by decide +kernel, by decide +kernel⟩
theorem ok_Trip_bag (T : Tx K mg a) : FnOk P w K mg base CX0 2 a.a_Trip_bag a.d_Trip_bag ["self", "walker"] (spBag a.c_Trip) := by
  have G_Trip_takes_room := @ok_Trip_takes_room P w _ _ base _ T
  refine T.F_Trip_bag.ok sc_Trip_bag (fun vs H Q E h => ?_) (fun cdv A outer s H vs Q E hr h => ?_)
  · obtain ⟨_, _, _, _, _, _, _, _, _, _, _, _, _, _, _, rfl, _⟩ := h; rfl
  · have nd := sc_Trip_bag.nd
    have hu := hr.units
    obtain ⟨x, b, dx, lL, lH, lA, lP, lD, ls, hs, os, ns, r, ds, w0, rfl, t, n41, lh, q⟩ := h
    refine ⟨_, (@bl_out _ _ _ (@bl_c _ _ _ _ _ _ (ps_set (i := 2) nd rfl (by first | exact Or.inl rfl | exact Or.inr rfl) (@pe_lst _ _ _ _ pa_nil)) (@bl_c _ _ _ _ _ _ (ps_for PassesOwn.never rfl (pi_enumL rfl rfl T.b_enumerate (@pa_out _ _ _ (@pa_c _ _ _ _ _ (pe_fld (pv 0) rfl) pa_n rfl))) (pg_tup' (n := 2) rfl rfl (pgs_cons (pg_name (i := 3) nd rfl (by first | exact Or.inl rfl | exact Or.inr rfl)) (pgs_cons (pg_name (i := 4) nd rfl (by first | exact Or.inl rfl | exact Or.inr rfl)) pgs_nil))) (@bl_out _ _ _ (@bl_1 _ _ _ (@ps_if _ _ _ _ _ _ _ _ (@PW.pt _ _ _ (@pw_and _ _ _ _ _ _ _ (@pt_cmpR _ _ _ _ _ _ _ _ (op_inD hu) (pv 1) (pv 4) rfl) (@pw_and1 _ _ _ _ (pt_val (pe_meth (pv 0) T.L_Trip T.M_Trip_takes_room G_Trip_takes_room (hr.mono (by decide)) T.i_Trip_takes_room .nil pass0 (@pa_out _ _ _ (@pa_c _ _ _ _ _ (pv 3) (@pa_c _ _ _ _ _ (pv 1) pa_n rfl) rfl))))))) (@bl_out _ _ _ (@bl_1 _ _ _ (ps_expr (pe_bm PySem.F.plainAttrs_list PySem.F.slot_list_append PySem.F.type_list_append mt_append (pv 2) (@pa_out _ _ _ (@pa_c _ _ _ _ _ (pv 3) pa_n rfl)))))) pss_nil)))) (@bl_1 _ _ _ (@ps_ret _ _ _ _ (pv 2)))))), ?_⟩
    have line := line9
    refine ⟨Nat.zero_le _, fun lk hlk => ?_⟩
    have s1 := same_new (o := HO.lst []) hlk
    refine ⟨_, rfl, x, _, dx, _, _, rfl, s1 _ _ t.ins, T.L_Trip, T.n_Trip_holders, rfl, lH, rfl, ⟨_, SqL.of (s1 _ _ t.hol)⟩, ?_⟩
    refine for_enumL (K := K) (a := lH) (xs := hs.map fun h => V.ref h.1) (fun i σ H3 => (∃ v3 v4, σ = [some (.ref x), some (.int w0), some (.ref lk), v3, v4]) ∧ Same H H3 ∧ H3 lk = some (.lst ((bagTo w0 ls hs i).map V.int))) ⟨⟨_, _, rfl⟩, s1, upd_same⟩ ?_ ?_ ?_
    · rintro i σ H3 _ ⟨_, s3, _⟩
      exact SqL.of (s3 _ _ t.hol)
    · rintro i v q0 σ H3 hv hq ⟨⟨v3, v4, rfl⟩, s3, kl⟩
      obtain ⟨h0, hh, rfl⟩ := map_get hv
      obtain ⟨l1, hl1⟩ : ∃ l, ls[i]? = some l := ⟨_, List.getElem?_eq_getElem (by have := (List.getElem?_eq_some_iff.mp hh).1; omega)⟩
      have s4 := same_new (o := HO.tup [V.int (i : Int), V.ref h0.1]) hq
      have k4 := s4 _ _ kl
      have kq : upd H3 q0 (HO.tup [V.int (i : Int), V.ref h0.1]) q0 = some (.tup [V.int (i : Int), V.ref h0.1]) := upd_same
      generalize upd H3 q0 (HO.tup [V.int (i : Int), V.ref h0.1]) = H4 at s4 k4 kq ⊢
      have sH4 := s3.trans s4
      have t4 := t.same sH4
      refine ⟨q0, _, rfl, SqT.of kq, rfl, _, _, rfl, _, _, rfl, rfl, ?_⟩
      refine ⟨_, rfl, _, rfl, h0.1, _, rfl, DGet.k (k := Sum.inl w0) (t4.hols h0 (List.mem_of_getElem? hh)), _, rfl, ?_⟩
      rw [valV_any]
      have nn : bagTo w0 ls hs (i + 1) = bagTo w0 ls hs i ++ (if inBag w0 ls[i]? hs[i]? then [(i : Int)] else []) := rfl
      rw [hl1, hh] at nn
      cases c : (h0.2.any fun p => decide (p.1 = w0)) with
      | false => exact iteB0 rfl ⟨⟨_, _, rfl⟩, sH4, by rw [nn, if_neg (by simp only [inBag, c, Bool.false_and]; exact Bool.false_ne_true), List.append_nil]; exact k4⟩
      | true =>
        refine iteB1 rfl ⟨_, rfl, x, dx, _, rfl, t4.ins, rfl, _, rfl, _, rfl, x, b, dx, lL, lH, lA, lP, lD, ls, hs, os, ns, r, ds, i, w0, l1, rfl, t4, hl1, fun H5 s5 => ⟨_, rfl, ?_⟩⟩
        have k5 := s5 _ _ k4
        cases c2 : (!(decide (w0 = l1.2.s) || decide (w0 = l1.2.w))) with
        | false => exact iteB0 rfl ⟨⟨_, _, rfl⟩, sH4.trans s5, by rw [nn, if_neg (by simp only [inBag, c, c2, Bool.and_false]; exact Bool.false_ne_true), List.append_nil]; exact k5⟩
        | true =>
          have li := bagTo_len w0 ls hs i
          have hi : i < hs.length := (List.getElem?_eq_some_iff.mp hh).1
          refine iteB1 rfl ⟨_, rfl, .inl ⟨rfl, _, SqL.of k5⟩, _, rfl, lk, _, _, rfl, rfl, k5, by rw [List.length_map]; omega, ⟨_, _, rfl⟩, same_put (sH4.trans s5) hlk, ?_⟩
          rw [upd_same, nn, if_pos (by simp only [inBag, c, c2, Bool.and_self]), List.map_append]
          rfl
    · rintro σ H3 ⟨⟨v3, v4, rfl⟩, s3, kl⟩
      rw [List.length_map] at kl
      exact ⟨_, rfl, q lk H3 s3 hlk kl⟩
theorem sc_Trip_done : FnScope ["self"] ["self"] (defScope s_Trip_done) := ⟨rfl, rfl, rfl, by decide +kernel, rfl, by decide +kernel, by decide +kernel⟩
theorem ok_Trip_done (T : Tx K mg a) : FnOk P w K mg base CX0 1 a.a_Trip_done a.d_Trip_done ["self"] (spDone a.c_Trip) := by
  refine T.F_Trip_done.ok sc_Trip_done (fun vs H Q E h => ?_) (fun cdv A outer s H vs Q E hr h => ?_)
  · obtain ⟨_, _, _, _, _, _, _, _, _, _, _, _, _, _, rfl, _⟩ := h; rfl
  · have nd := sc_Trip_done.nd
    have hu := hr.units
    obtain ⟨x, b, dx, lL, lH, lA, lP, lD, ls, hs, os, ns, r, ds, rfl, t, q⟩ := h
    refine ⟨_, (@bl_out _ _ _ (@bl_1 _ _ _ (@ps_ret _ _ _ _ (pe_callTy (call_list_of' rfl) (by rfl) T.b_list PyProof.Rows.boot_list (@pa_out _ _ _ (@pa_c _ _ _ _ _ (pe_fld (pv 0) rfl) pa_n rfl)))))), ?_⟩
    exact ⟨_, rfl, x, _, dx, _, _, rfl, t.ins, T.L_Trip, T.n_Trip_deeds, rfl, lD, _, rfl, .inl (SqL.of t.dee), q⟩
theorem sc_Trip_need_letter : FnScope ["self", "letter"] ["self", "letter"] (defScope s_Trip_need_letter) := ⟨rfl, rfl, rfl, by decide +kernel, rfl, by decide +kernel, by decide +kernel⟩
theorem ok_Trip_need_letter (T : Tx K mg a) : FnOk P w K mg base (CXE P w) 3 a.a_Trip_need_letter a.d_Trip_need_letter ["self", "letter"] (spNeedL a.c_Trip ⟨a.c_NoDeed, a.c_NoMeeting, a.c_NoLetter, a.c_NoWalker, a.c_NotThere, a.c_HasIt, a.c_NoPass, a.c_NoRoom⟩) := by
  have G_is_within := @ok_is_within P w _ _ base _ T
  refine T.F_Trip_need_letter.okE sc_Trip_need_letter (fun vs H Q E h => ?_) (fun cdv A outer s H vs Q E hr h => ?_)
  · obtain ⟨_, _, _, _, _, _, _, rfl, _⟩ := h; rfl
  · have nd := sc_Trip_need_letter.nd
    have hu := hr.units
    obtain ⟨t, l, rooms, tr, tm, ps, n0, rfl, k, q1, q2⟩ := h
    refine ⟨_, (@bl_out _ _ _ (@bl_1 _ _ _ (@ps_if _ _ _ _ _ _ _ _ (@pt_not _ _ _ _ (pt_val (pe_call G_is_within (hr.mono (by decide)) rfl T.m_is_within T.k_is_within T.i_is_within .nil pass0 (@pa_out _ _ _ (@pa_c _ _ _ _ _ (pv 1) (@pa_c _ _ _ _ _ pe_int (@pa_c _ _ _ _ _ (@pe_op _ _ _ _ _ _ _ _ op_sub (pe_callB (call_len_seq' rfl) (by rfl) T.b_len PySem.boot_len (@pa_out _ _ _ (@pa_c _ _ _ _ _ (pe_fld (pv 0) rfl) pa_n rfl))) pe_int) pa_n rfl) rfl) rfl))))) (@bl_out _ _ _ (@bl_1 _ _ _ (ps_raise rfl rfl rfl rfl rfl T.m_NoLetter T.x_NoLetter))) pss_nil))), ?_⟩
    refine ⟨_, rfl, _, rfl, t.x, _, t.dx, _, _, rfl, k.at_.ins, T.L_Trip, T.n_Trip_letters, rfl, t.lL, _, rfl, .inl (SqL.of k.at_.lts), _, _, rfl, rfl, .int l, "int", 0, _, rfl, rfl, _, rfl, ?_⟩
    rw [List.length_map]
    by_cases c : 0 ≤ l ∧ l < t.ls.length
    · exact iteB0 (by simp [inB]; omega) (q1 c)
    · exact iteB1 (by simp [inB]; omega) (q2 c)
theorem sc_Trip_need_drop : FnScope ["self", "letter", "walker"] ["self", "letter", "walker"] (defScope s_Trip_need_drop) := ⟨rfl, rfl, rfl, by decide +kernel, rfl, by decide +kernel, by decide +kernel⟩
theorem ok_Trip_need_drop (T : Tx K mg a) : FnOk P w K mg base (CXE P w) 4 a.a_Trip_need_drop a.d_Trip_need_drop ["self", "letter", "walker"] (spNeedD a.c_Trip ⟨a.c_NoDeed, a.c_NoMeeting, a.c_NoLetter, a.c_NoWalker, a.c_NotThere, a.c_HasIt, a.c_NoPass, a.c_NoRoom⟩) := by
  have G_is_walker := @ok_is_walker P w _ _ base _ T
  have G_Trip_need_letter := @ok_Trip_need_letter P w _ _ base _ T
  refine T.F_Trip_need_drop.okE sc_Trip_need_drop (fun vs H Q E h => ?_) (fun cdv A outer s H vs Q E hr h => ?_)
  · obtain ⟨_, _, _, _, _, _, _, _, rfl, _⟩ := h; rfl
  · have nd := sc_Trip_need_drop.nd
    have hu := hr.units
    obtain ⟨t, l, w0, rooms, tr, tm, ps, n0, rfl, k, q1, q2⟩ := h
    refine ⟨_, (@bl_out _ _ _ (@bl_c _ _ _ _ _ _ (ps_expr (pe_meth (E := E) (pv 0) T.L_Trip T.M_Trip_need_letter G_Trip_need_letter (hr.mono (by decide)) T.i_Trip_need_letter .nil (pass_on rfl rfl rfl (fun _ _ z => z)) (@pa_out _ _ _ (@pa_c _ _ _ _ _ (pv 1) pa_n rfl)))) (@bl_c _ _ _ _ _ _ (@ps_if _ _ _ _ _ _ _ _ (@pt_not _ _ _ _ (pt_val (pe_call G_is_walker (hr.mono (by decide)) rfl T.m_is_walker T.k_is_walker T.i_is_walker .nil pass0 (@pa_out _ _ _ (@pa_c _ _ _ _ _ (pe_fld (pv 0) rfl) (@pa_c _ _ _ _ _ (pv 2) pa_n rfl) rfl))))) (@bl_out _ _ _ (@bl_1 _ _ _ (ps_raise rfl rfl rfl rfl rfl T.m_NoWalker T.x_NoWalker))) pss_nil) (@bl_1 _ _ _ (@ps_if _ _ _ _ _ _ _ _ (@pt_cmpR _ _ _ _ _ _ _ _ (op_notInD hu) (pv 2) (@pe_ix _ _ _ _ _ _ _ (ix_list' rfl) (pe_fld (pv 0) rfl) (pv 1) (fun _ _ => rfl)) rfl) (@bl_out _ _ _ (@bl_1 _ _ _ (ps_raise rfl rfl rfl rfl rfl T.m_NotThere T.x_NotThere))) pss_nil))))), ?_⟩
    have qE : ∀ n, codeD rooms t l w0 = n → n ≠ 8 → E (.ref (XC.of ⟨a.c_NoDeed, a.c_NoMeeting, a.c_NoLetter, a.c_NoWalker, a.c_NotThere, a.c_HasIt, a.c_NoPass, a.c_NoRoom⟩ n)) none H := fun n e ne => e ▸ q2 (e ▸ ne)
    refine ⟨_, rfl, t.x, t.dx, _, rfl, k.at_.ins, rfl, _, rfl, t, l, rooms, tr, tm, ps, n0, rfl, k, fun c => ?_, fun c => qE 2 (by unfold codeD; rw [if_neg c]) (by decide)⟩
    obtain ⟨l, rfl⟩ := Int.eq_ofNat_of_zero_le c.1
    obtain ⟨h, hh, _, hd⟩ := k.kvAt (l := l) (by omega)
    refine ⟨_, rfl, t.x, _, t.dx, _, _, rfl, k.at_.ins, T.L_Trip, T.n_Trip_book, rfl, _, rfl, t.b, .int w0, "int", rooms, tr, tm, ps, rfl, k.bk, rfl, _, rfl, ?_⟩
    by_cases c2 : 0 ≤ w0 ∧ w0 < rooms.length
    · have at1 : atI (t.hs.map fun h => V.ref h.1) (l : Int) = some (V.ref h.1) := atI_nat (by rw [List.getElem?_map, hh]; rfl)
      refine iteB0 (by simp [inB]; omega) ⟨_, rfl, _, rfl, t.x, _, t.dx, _, _, rfl, k.at_.ins, T.L_Trip, T.n_Trip_holders, rfl, _, rfl, t.lH, _, _, _, rfl, rfl, SqL.of k.at_.hol, at1, h.1, _, rfl, DGet.k (k := Sum.inl w0) hd, _, rfl, ?_⟩
      have ce : codeD rooms t (l : Int) w0 = if (kvget h.2 w0).isSome = true then 8 else 4 := by
        unfold codeD; rw [if_pos c, if_pos c2, Int.toNat_natCast, hh]
      rw [valV_kv, Option.isSome_map]
      cases c3 : (kvget h.2 w0).isSome with
      | true => exact iteB0 rfl (q1 (by rw [ce, c3]; rfl))
      | false => exact iteB1 rfl (qE 4 (by rw [ce, c3]; rfl) (by decide))
    · exact iteB1 (by simp [inB]; omega) (qE 3 (by unfold codeD; rw [if_pos c, if_neg c2]) (by decide))
theorem sc_Trip_need_passing : FnScope ["self", "meeting", "letter", "giver", "one", "two", "when", "many", "other"] ["self", "meeting", "letter", "giver"] (defScope s_Trip_need_passing) := ⟨rfl, rfl, rfl, by decide +kernel, rfl, by decide +kernel, by decide +kernel⟩
theorem ok_Trip_need_passing (T : Tx K mg a) : FnOk P w K mg base (CXE P w) 4 a.a_Trip_need_passing a.d_Trip_need_passing ["self", "meeting", "letter", "giver"] (spNeedP a.c_Trip ⟨a.c_NoDeed, a.c_NoMeeting, a.c_NoLetter, a.c_NoWalker, a.c_NotThere, a.c_HasIt, a.c_NoPass, a.c_NoRoom⟩) := by
  have G_is_below := @ok_is_below P w _ _ base _ T
  have G_is_meeting_number := @ok_is_meeting_number P w _ _ base _ T
  have G_other_at := @ok_other_at P w _ _ base _ T
  have G_Trip_takes_room := @ok_Trip_takes_room P w _ _ base _ T
  have G_Trip_bag := @ok_Trip_bag P w _ _ base _ T
  have G_Trip_need_letter := @ok_Trip_need_letter P w _ _ base _ T
  refine T.F_Trip_need_passing.okE sc_Trip_need_passing (fun vs H Q E h => ?_) (fun cdv A outer s H vs Q E hr h => ?_)
  · obtain ⟨_, _, _, _, _, _, _, _, _, rfl, _⟩ := h; rfl
  · have nd := sc_Trip_need_passing.nd
    have hu := hr.units
    obtain ⟨t, m, l, g, rooms, tr, tm, ps, n0, rfl, k, q1, q2⟩ := h
    refine ⟨_, (@bl_out _ _ _ (@bl_c _ _ _ _ _ _ (@ps_if _ _ _ _ _ _ _ _ (@PW.pt _ _ _ (@pw_or _ _ _ _ _ _ _ (@pt_not _ _ _ _ (pt_val (pe_call G_is_meeting_number (hr.mono (by decide)) rfl T.m_is_meeting_number T.k_is_meeting_number T.i_is_meeting_number .nil pass0 (@pa_out _ _ _ (@pa_c _ _ _ _ _ (pe_fld (pv 0) rfl) (@pa_c _ _ _ _ _ (pv 1) pa_n rfl) rfl))))) (@pw_or1 _ _ _ _ (@pt_cmpR _ _ _ _ _ _ _ _ op_lt (pv 1) (pe_fld (pv 0) rfl) (nomark _))))) (@bl_out _ _ _ (@bl_1 _ _ _ (ps_raise rfl rfl rfl rfl rfl T.m_NoMeeting T.x_NoMeeting))) pss_nil) (@bl_c _ _ _ _ _ _ (ps_expr (pe_meth (E := E) (pv 0) T.L_Trip T.M_Trip_need_letter G_Trip_need_letter (hr.mono (by decide)) T.i_Trip_need_letter .nil (pass_on rfl rfl rfl (fun _ _ z => z)) (@pa_out _ _ _ (@pa_c _ _ _ _ _ (pv 2) pa_n rfl)))) (@bl_c _ _ _ _ _ _ (PS.nox (ps_asg (@pe_ix _ _ _ _ _ _ _ (ix_tup' rfl) (@pe_ix _ _ _ _ _ _ _ (ix_tup' rfl) (pe_fld (pv 0) rfl) pe_int (fun _ _ => rfl)) (pv 1) (fun _ _ => rfl)) (pg_tup' (n := 4) rfl rfl (pgs_cons (pg_name (i := 4) nd rfl (by first | exact Or.inl rfl | exact Or.inr rfl)) (pgs_cons (pg_name (i := 5) nd rfl (by first | exact Or.inl rfl | exact Or.inr rfl)) (pgs_cons (pg_name (i := 6) nd rfl (by first | exact Or.inl rfl | exact Or.inr rfl)) (pgs_cons (pg_name (i := 7) nd rfl (by first | exact Or.inl rfl | exact Or.inr rfl)) pgs_nil))))))) (@bl_c _ _ _ _ _ _ (@ps_if _ _ _ _ _ _ _ _ (@pt_cmpR _ _ _ _ _ _ _ _ op_notIn_seq (pv 3) (@pe_tup _ _ _ _ _ (@pa_out _ _ _ (@pa_c _ _ _ _ _ (pv 4) (@pa_c _ _ _ _ _ (pv 5) pa_n rfl) rfl))) rfl) (@bl_out _ _ _ (@bl_1 _ _ _ (ps_raise rfl rfl rfl rfl rfl T.m_NoWalker T.x_NoWalker))) pss_nil) (@bl_c _ _ _ _ _ _ (@ps_if _ _ _ _ _ _ _ _ (@pt_not _ _ _ _ (pt_val (pe_call G_is_below (hr.mono (by decide)) rfl T.m_is_below T.k_is_below T.i_is_below .nil pass0 (@pa_out _ _ _ (@pa_c _ _ _ _ _ (pe_bm PySem.F.plainAttrs_dict PySem.F.slot_dict_get PySem.F.type_dict_get (mt_dget (by exact hu)) (@pe_ix _ _ _ _ _ _ _ (ix_list' rfl) (pe_fld (pv 0) rfl) (pv 2) (fun _ _ => rfl)) (@pa_out _ _ _ (@pa_c _ _ _ _ _ (pv 3) pa_n rfl))) (@pa_c _ _ _ _ _ (pv 6) pa_n rfl) rfl))))) (@bl_out _ _ _ (@bl_1 _ _ _ (ps_raise rfl rfl rfl rfl rfl T.m_NotThere T.x_NotThere))) pss_nil) (@bl_c _ _ _ _ _ _ (PS.nox (ps_set (i := 8) nd rfl (by first | exact Or.inl rfl | exact Or.inr rfl) (pe_call G_other_at (hr.mono (by decide)) rfl T.m_other_at T.k_other_at T.i_other_at .nil pass0 (@pa_out _ _ _ (@pa_c _ _ _ _ _ (pe_fld (pv 0) rfl) (@pa_c _ _ _ _ _ (pv 1) (@pa_c _ _ _ _ _ (pv 3) pa_n rfl) rfl) rfl))))) (@bl_c _ _ _ _ _ _ (@ps_if _ _ _ _ _ _ _ _ (@pt_cmpR _ _ _ _ _ _ _ _ (op_inD hu) (pv 8) (@pe_ix _ _ _ _ _ _ _ (ix_list' rfl) (pe_fld (pv 0) rfl) (pv 2) (fun _ _ => rfl)) rfl) (@bl_out _ _ _ (@bl_1 _ _ _ (ps_raise rfl rfl rfl rfl rfl T.m_HasIt T.x_HasIt))) pss_nil) (@bl_c _ _ _ _ _ _ (@ps_if _ _ _ _ _ _ _ _ (@pt_cmpR _ _ _ _ _ _ _ _ op_ge (@pe_ix _ _ _ _ _ _ _ (ix_list' rfl) (pe_fld (pv 0) rfl) (pv 1) (fun _ _ => rfl)) (pv 7) (nomark _)) (@bl_out _ _ _ (@bl_1 _ _ _ (ps_raise rfl rfl rfl rfl rfl T.m_NoPass T.x_NoPass))) pss_nil) (@bl_1 _ _ _ (@ps_if _ _ _ _ _ _ _ _ (@PW.pt _ _ _ (@pw_and _ _ _ _ _ _ _ (pt_val (pe_meth (pv 0) T.L_Trip T.M_Trip_takes_room G_Trip_takes_room (hr.mono (by decide)) T.i_Trip_takes_room .nil pass0 (@pa_out _ _ _ (@pa_c _ _ _ _ _ (pv 2) (@pa_c _ _ _ _ _ (pv 8) pa_n rfl) rfl)))) (@pw_and1 _ _ _ _ (@pt_cmpR _ _ _ _ _ _ _ _ op_ge (pe_callB (call_len_seq' rfl) (by rfl) T.b_len PySem.boot_len (@pa_out _ _ _ (@pa_c _ _ _ _ _ (pe_meth (pv 0) T.L_Trip T.M_Trip_bag G_Trip_bag (hr.mono (by decide)) T.i_Trip_bag .nil pass0 (@pa_out _ _ _ (@pa_c _ _ _ _ _ (pv 8) pa_n rfl))) pa_n rfl))) (@pe_ix _ _ _ _ _ _ _ (ix_tup' rfl) (@pe_ix _ _ _ _ _ _ _ (ix_tup' rfl) (pe_fld (pv 0) rfl) pe_int (fun _ _ => rfl)) (pv 8) (fun _ _ => rfl)) (nomark _))))) (@bl_out _ _ _ (@bl_1 _ _ _ (ps_raise rfl rfl rfl rfl rfl T.m_NoRoom T.x_NoRoom))) pss_nil))))))))))), ?_⟩
    have line := line9
    have qE : ∀ n, codeP rooms (ps.map (·.2)) t m l g = n → n ≠ 8 → ∀ H', Same H H' → E (.ref (XC.of ⟨a.c_NoDeed, a.c_NoMeeting, a.c_NoLetter, a.c_NoWalker, a.c_NotThere, a.c_HasIt, a.c_NoPass, a.c_NoRoom⟩ n)) none H' := fun n e ne => e ▸ q2 (e ▸ ne)
    have lm : (ps.map (·.2)).length = ps.length := List.length_map _
    refine ⟨_, rfl, t.x, _, t.dx, _, _, rfl, k.at_.ins, T.L_Trip, T.n_Trip_book, rfl, _, rfl, t.b, .int m, "int", rooms, tr, tm, ps, rfl, k.bk, rfl, _, rfl, ?_⟩
    by_cases c1 : 0 ≤ m ∧ m < ps.length
    rotate_left
    · exact iteB1 (by simp [inB]; omega) (iteB1 rfl (qE 1 (by unfold codeP; rw [lm, if_neg fun z => c1 ⟨z.1, z.2.1⟩]) (by decide) H (Same.refl _)))
    refine iteB0 (by simp [inB]; omega) ⟨_, rfl, _, rfl, t.x, _, t.dx, _, _, rfl, k.at_.ins, T.L_Trip, T.n_Trip_reached, rfl, _, _, rfl, rfl, _, rfl, iteD (fun c => qE 1 (by unfold codeP; rw [lm, if_neg fun z => by omega]) (by decide) H (Same.refl _)) fun c2 => ?_⟩
    refine ⟨_, rfl, t.x, t.dx, _, rfl, k.at_.ins, rfl, _, rfl, t, l, rooms, tr, tm, ps, n0, rfl, k, fun c3 => ?_, fun c3 => qE 2 (by unfold codeP; rw [lm, if_pos ⟨c1.1, c1.2, by omega⟩, if_neg c3]) (by decide) H (Same.refl _)⟩
    obtain ⟨m, rfl⟩ := Int.eq_ofNat_of_zero_le c1.1
    obtain ⟨l, rfl⟩ := Int.eq_ofNat_of_zero_le c3.1
    have hm : m < ps.length := by omega
    obtain ⟨h, hh, _, hd⟩ := k.kvAt (l := l) (by omega)
    obtain ⟨L, hL⟩ : ∃ L, t.ls[l]? = some L := ⟨_, List.getElem?_eq_getElem (by omega)⟩
    obtain ⟨n, hn⟩ : ∃ n, t.ns[m]? = some n := ⟨_, List.getElem?_eq_getElem (by have := k.ln; omega)⟩
    obtain ⟨M, hp⟩ : ∃ M, ps[m]? = some M := ⟨_, List.getElem?_eq_getElem hm⟩
    have hM : (ps.map (·.2))[m]? = some M.2 := by rw [List.getElem?_map, hp]; rfl
    have ce := codeP_at (rooms := rooms) (ms := ps.map (·.2)) (g := g) (show t.r ≤ (m : Int) by omega) hM hL hh hn
    have hrow : H M.1 = some (.tup M.2.vs) := k.bk.rows M (List.mem_of_getElem? hp)
    have atm : atI (ps.map fun a => V.ref a.1) (m : Int) = some (V.ref M.1) := atI_nat (by rw [List.getElem?_map, hp]; rfl)
    have at1 : atI (t.hs.map fun h => V.ref h.1) (l : Int) = some (V.ref h.1) := atI_nat (by rw [List.getElem?_map, hh]; rfl)
    have at2 : atI (t.ns.map V.int) (m : Int) = some (V.int n) := atI_nat (by rw [List.getElem?_map, hn]; rfl)
    refine ⟨_, rfl, t.x, _, t.dx, _, _, rfl, k.at_.ins, T.L_Trip, T.n_Trip_book, rfl, t.b, _, _, _, rfl, rfl, SqT.of k.bk.book, rfl, _, rfl, tm, _, _, _, rfl, rfl, SqT.of k.bk.meets, atm, M.1, _, rfl, SqT.of hrow, rfl, _, _, rfl, _, _, rfl, _, _, rfl, _, _, rfl, rfl, ?_⟩
    refine ⟨_, rfl, _, rfl, _, rfl, by show 2 ≤ _; omega, fun t2 ht2 => ⟨t2, _, rfl, .inr (SqT.of upd_same), rfl, rfl, _, rfl, ?_⟩⟩
    have s1 := same_new (o := HO.tup [V.int M.2.lo, V.int M.2.hi]) ht2
    generalize upd H t2 (HO.tup [V.int M.2.lo, V.int M.2.hi]) = H1 at s1 ⊢
    have k1 := k.same s1
    have hd1 := s1 _ _ hd
    have eV : inV (V.int g) [V.int M.2.lo, V.int M.2.hi] = decide (g = M.2.lo ∨ g = M.2.hi) := by
      simp [inV, eqV_int, Bool.decide_or]
      congr 1 <;> exact decide_eq_decide.mpr ⟨Eq.symm, Eq.symm⟩
    by_cases c4 : g = M.2.lo ∨ g = M.2.hi
    rotate_left
    · exact iteB1 (by show (!inV (V.int g) [V.int M.2.lo, V.int M.2.hi]) = true; rw [eV, decide_eq_false c4]; rfl) (qE 3 (by rw [ce]; unfold codeP2; rw [if_neg c4]) (by decide) _ s1)
    refine iteB0 (by show (!inV (V.int g) [V.int M.2.lo, V.int M.2.hi]) = false; rw [eV, decide_eq_true c4]; rfl) ?_
    refine ⟨_, rfl, t.x, _, t.dx, _, _, rfl, k1.at_.ins, T.L_Trip, T.n_Trip_holders, rfl, _, rfl, t.lH, _, _, _, rfl, rfl, SqL.of k1.at_.hol, at1, .inr (.inr (.inl ⟨rfl, .inl ⟨_, hd1⟩⟩)), _, rfl, h.1, _, _, rfl, rfl, DGet.k (k := Sum.inl g) hd1, _, rfl, kvget h.2 g, M.2.t, by rw [valV_kv]; cases kvget h.2 g <;> rfl, _, rfl, ?_⟩
    cases c5 : below (kvget h.2 g) M.2.t with
    | false => exact iteB1 rfl (qE 4 (by rw [ce]; unfold codeP2; rw [if_pos c4, if_neg (by rw [c5]; exact Bool.false_ne_true)]) (by decide) _ s1)
    | true =>
    refine iteB0 rfl ⟨_, rfl, t.x, _, t.dx, _, _, rfl, k1.at_.ins, T.L_Trip, T.n_Trip_book, rfl, _, rfl, _, rfl, t.b, m, g, rooms, tr, tm, ps, M.2, rfl, k1.bk, hM, ?_⟩
    refine ⟨_, rfl, _, rfl, t.x, _, t.dx, _, _, rfl, k1.at_.ins, T.L_Trip, T.n_Trip_holders, rfl, _, rfl, t.lH, _, _, _, rfl, rfl, SqL.of k1.at_.hol, at1, h.1, _, rfl, DGet.k (k := Sum.inl (othI M.2 g)) hd1, _, rfl, ?_⟩
    rw [valV_kv, Option.isSome_map]
    cases c6 : (kvget h.2 (othI M.2 g)).isSome with
    | true => exact iteB1 rfl (qE 5 (by rw [ce]; unfold codeP2; rw [if_pos c4, if_pos c5, if_pos c6]) (by decide) _ s1)
    | false =>
    have n6 : ¬ (kvget h.2 (othI M.2 g)).isSome = true := by rw [c6]; exact Bool.false_ne_true
    refine iteB0 rfl ⟨_, rfl, t.x, _, t.dx, _, _, rfl, k1.at_.ins, T.L_Trip, T.n_Trip_passed, rfl, _, rfl, t.lP, _, _, _, rfl, rfl, SqL.of k1.at_.pas, at2, _, rfl, _, _, rfl, rfl, _, rfl, iteD (fun c7 => qE 6 (by rw [ce]; unfold codeP2; rw [if_pos c4, if_pos c5, if_neg n6, if_pos c7]) (by decide) _ s1) fun c7 => ?_⟩
    have c7' : ¬ M.2.m ≤ n := c7
    refine ⟨_, rfl, t.x, t.dx, _, rfl, k1.at_.ins, rfl, _, rfl, _, rfl, t.x, t.b, t.dx, t.lL, t.lH, t.lA, t.lP, t.lD, t.ls, t.hs, t.os, t.ns, t.r, t.ds, l, othI M.2 g, L, rfl, k1.at_, hL, fun H2 s2 => ⟨_, rfl, ?_⟩⟩
    have k2 := k1.same s2
    cases c8 : (!(decide (othI M.2 g = L.2.s) || decide (othI M.2 g = L.2.w))) with
    | false => exact iteB0 rfl (iteB0 rfl (q1 (by rw [ce]; unfold codeP2; rw [if_pos c4, if_pos c5, if_neg n6, if_neg c7', if_neg (by show ¬ (takB L.2 (othI M.2 g) && _) = true; unfold takB; rw [c8]; exact Bool.false_ne_true)]) _ (s1.trans s2)))
    | true =>
    have oi := othI_in (g := g) k.gd hM
    obtain ⟨o, eo⟩ := Int.eq_ofNat_of_zero_le oi.1
    obtain ⟨rr, hrr⟩ : ∃ rr, rooms[o]? = some rr := ⟨_, List.getElem?_eq_getElem (by omega)⟩
    have at3 : atI (rooms.map V.int) (othI M.2 g) = some (V.int rr) := by rw [eo]; exact atI_nat (by rw [List.getElem?_map, hrr]; rfl)
    refine iteB1 rfl ⟨_, rfl, t.x, t.dx, _, rfl, k2.at_.ins, rfl, _, rfl, t.x, t.b, t.dx, t.lL, t.lH, t.lA, t.lP, t.lD, t.ls, t.hs, t.os, t.ns, t.r, t.ds, othI M.2 g, rfl, k2.at_, by have := k.lh; have := k.few; omega, k.lh, fun lb H3 s3 fl hlb => ?_⟩
    have k3 := k2.same s3
    refine ⟨lb, _, rfl, .inl (SqL.of hlb), _, rfl, t.x, _, t.dx, _, _, rfl, k3.at_.ins, T.L_Trip, T.n_Trip_book, rfl, t.b, _, _, _, rfl, rfl, SqT.of k3.bk.book, rfl, _, rfl, tr, _, _, _, rfl, rfl, SqT.of k3.bk.rooms, at3, _, _, rfl, rfl, _, rfl, ?_⟩
    rw [List.length_map]
    have e7 : (takB L.2 (othI M.2 g) && decide ((rooms[(othI M.2 g).toNat]?.getD 0) ≤ ((bagTo (othI M.2 g) t.ls t.hs t.hs.length).length : Int))) = decide (rr ≤ ((bagTo (othI M.2 g) t.ls t.hs t.hs.length).length : Int)) := by
      unfold takB
      rw [c8, eo, Int.toNat_natCast, hrr]; rfl
    refine iteD (fun c9 => qE 7 (by rw [ce]; unfold codeP2; rw [if_pos c4, if_pos c5, if_neg n6, if_neg c7', e7, if_pos (decide_eq_true c9)]) (by decide) _ ((s1.trans s2).trans s3)) fun c9 => ?_
    exact q1 (by rw [ce]; unfold codeP2; rw [if_pos c4, if_pos c5, if_neg n6, if_neg c7', e7, if_neg (by rw [decide_eq_false c9]; exact Bool.false_ne_true)]) _ ((s1.trans s2).trans s3)
theorem sc_Trip_pass_on : FnScope ["self", "meeting", "letter", "giver", "other", "when"] ["self", "meeting", "letter", "giver"] (defScope s_Trip_pass_on) := ⟨rfl, rfl, rfl, by decide +kernel, rfl, by decide +kernel, by decide +kernel⟩
theorem ok_Trip_pass_on (T : Tx K mg a) : FnOk P w K mg base CX0 2 a.a_Trip_pass_on a.d_Trip_pass_on ["self", "meeting", "letter", "giver"] (spPassOn a.c_Trip) := by
  have G_other_at := @ok_other_at P w _ _ base _ T
  have G_Trip_note_arrival := @ok_Trip_note_arrival P w _ _ base _ T
  refine T.F_Trip_pass_on.ok sc_Trip_pass_on (fun vs H Q E h => ?_) (fun cdv A outer s H vs Q E hr h => ?_)
  · obtain ⟨_, _, _, _, _, _, _, _, _, _, _, rfl, _⟩ := h; rfl
  · have nd := sc_Trip_pass_on.nd
    have hu := hr.units
    obtain ⟨t, m, l, g, M, L, rooms, tr, tm, ps, n0, rfl, k, hM, hL, hg, n2, q⟩ := h
    refine ⟨_, (@bl_out _ _ _ (@bl_c _ _ _ _ _ _ (ps_set (i := 4) nd rfl (by first | exact Or.inl rfl | exact Or.inr rfl) (pe_call G_other_at (hr.mono (by decide)) rfl T.m_other_at T.k_other_at T.i_other_at .nil pass0 (@pa_out _ _ _ (@pa_c _ _ _ _ _ (pe_fld (pv 0) rfl) (@pa_c _ _ _ _ _ (pv 1) (@pa_c _ _ _ _ _ (pv 3) pa_n rfl) rfl) rfl)))) (@bl_c _ _ _ _ _ _ (ps_set (i := 5) nd rfl (by first | exact Or.inl rfl | exact Or.inr rfl) (@pe_ix _ _ _ _ _ _ _ (ix_tup' rfl) (@pe_ix _ _ _ _ _ _ _ (ix_tup' rfl) (@pe_ix _ _ _ _ _ _ _ (ix_tup' rfl) (pe_fld (pv 0) rfl) pe_int (fun _ _ => rfl)) (pv 1) (fun _ _ => rfl)) pe_int (fun _ _ => rfl))) (@bl_c _ _ _ _ _ _ (ps_dput (Nat.lt_of_le_of_lt (Nat.add_le_add_left (by decide) _) hu) (@pe_ix _ _ _ _ _ _ _ (ix_list' rfl) (pe_fld (pv 0) rfl) (pv 2) (fun _ _ => rfl)) (pv 4) (pv 5) rfl) (@bl_c _ _ _ _ _ _ (ps_augS (pe_fld (pv 0) rfl) (pv 1) (get_list rfl) pe_int ip_add set_list) (@bl_c _ _ _ _ _ _ (ps_fld (pv 0) (pv 1) rfl) (@bl_1 _ _ _ (ps_expr (pe_meth (pv 0) T.L_Trip T.M_Trip_note_arrival G_Trip_note_arrival (hr.mono (by decide)) T.i_Trip_note_arrival .nil pass0 (@pa_out _ _ _ (@pa_c _ _ _ _ _ (pv 2) (@pa_c _ _ _ _ _ (pv 4) (@pa_c _ _ _ _ _ (pv 5) pa_n rfl) rfl) rfl))))))))))), ?_⟩
    have line := line9
    have hl : l < t.ls.length := (List.getElem?_eq_some_iff.mp hL).1
    obtain ⟨h, hh, ek, hd⟩ := k.kvAt hl
    obtain ⟨p0, hp⟩ : ∃ p0, ps[m]? = some p0 := ⟨_, List.getElem?_eq_getElem (by have := (List.getElem?_eq_some_iff.mp hM).1; simpa using this)⟩
    have eM : p0.2 = M := by rw [List.getElem?_map, hp] at hM; exact Option.some.inj hM
    subst eM
    obtain ⟨n, hn⟩ : ∃ n, t.ns[m]? = some n := ⟨_, List.getElem?_eq_getElem (by have := k.ln; have := (List.getElem?_eq_some_iff.mp hp).1; omega)⟩
    have hrow : H p0.1 = some (.tup p0.2.vs) := k.bk.rows p0 (List.mem_of_getElem? hp)
    have atm : atI (ps.map fun a => V.ref a.1) (m : Int) = some (V.ref p0.1) := atI_nat (by rw [List.getElem?_map, hp]; rfl)
    have at1 : atI (t.hs.map fun h => V.ref h.1) (l : Int) = some (V.ref h.1) := atI_nat (by rw [List.getElem?_map, hh]; rfl)
    have sh := k.sh h (List.mem_of_getElem? hh)
    refine ⟨_, rfl, t.x, _, t.dx, _, _, rfl, k.at_.ins, T.L_Trip, T.n_Trip_book, rfl, _, rfl, _, rfl, t.b, m, g, rooms, tr, tm, ps, p0.2, rfl, k.bk, hM, ?_⟩
    refine ⟨_, rfl, t.x, _, t.dx, _, _, rfl, k.at_.ins, T.L_Trip, T.n_Trip_book, rfl, t.b, _, _, _, rfl, rfl, SqT.of k.bk.book, rfl, _, rfl, tm, _, _, _, rfl, rfl, SqT.of k.bk.meets, atm, p0.1, _, _, _, rfl, rfl, SqT.of hrow, rfl, ?_⟩
    refine ⟨_, rfl, _, rfl, t.x, _, t.dx, _, _, rfl, k.at_.ins, T.L_Trip, T.n_Trip_holders, rfl, _, rfl, t.lH, _, _, _, rfl, rfl, SqL.of k.at_.hol, at1, _, rfl, h.1, _, rfl, DPut.k (k := Sum.inl (othI p0.2 g)) hd (by unfold kvV; rw [List.length_map]; omega), ?_⟩
    rw [putK_kv]
    have k1 := (k.mono (Nat.le_succ n0)).hset hh (kv := kvput h.2 (othI p0.2 g) p0.2.t) (by have := kvput_len h.2 (othI p0.2 g) p0.2.t; omega)
    have kp1 := k.hkeep hh (o := HO.dK (kvV (kvput h.2 (othI p0.2 g) p0.2.t)))
    generalize upd H h.1 (HO.dK (kvV (kvput h.2 (othI p0.2 g) p0.2.t))) = H1 at k1 kp1 ⊢
    have pas1 : H1 t.lP = some (.lst (t.ns.map V.int)) := k1.at_.pas
    have l2 : m < (t.ns.map V.int).length := by rw [List.length_map]; exact (List.getElem?_eq_some_iff.mp hn).1
    refine ⟨_, rfl, t.x, _, t.dx, _, _, rfl, k1.at_.ins, T.L_Trip, T.n_Trip_passed, rfl, _, rfl, t.lP, _, _, m, rfl, rfl, SqL.of pas1, (by show (t.ns.map V.int)[m]? = some (V.int n); rw [List.getElem?_map, hn]; rfl), _, _, rfl, rfl, t.lP, _, _, m, rfl, rfl, pas1, (by show ixN (t.ns.map V.int).length (m : Int) = some m; unfold ixN; rw [if_pos (by omega), if_pos (by omega)]; simp), ?_⟩
    have k2 : TrOk a.c_Trip (upd H1 t.lP (.lst ((t.ns.set m (n + 1)).map V.int))) { t.setH l (kvput h.2 (othI p0.2 g) p0.2.t) with ns := t.ns.set m (n + 1) } rooms tr tm ps (n0 + 1) := k1.pset (by rw [List.length_set]; exact k.ln)
    have kp2 : Keeps t H1 (upd H1 t.lP (.lst ((t.ns.set m (n + 1)).map V.int))) := Keeps.put (.inr (.inr (.inl rfl)))
    rw [List.map_set] at k2 kp2
    show tSeq _ _ _ _ (upd H1 t.lP (HO.lst ((t.ns.map V.int).set m (V.int (n + 1)))))
    generalize upd H1 t.lP (HO.lst ((t.ns.map V.int).set m (V.int (n + 1)))) = H2 at k2 kp2 ⊢
    have i2 : H2 t.x = some (.ins a.c_Trip t.dx [("book", .ref t.b), ("letters", .ref t.lL), ("holders", .ref t.lH), ("arrivals", .ref t.lA), ("passed", .ref t.lP), ("reached", .int t.r), ("deeds", .ref t.lD)]) := k2.at_.ins
    refine ⟨_, rfl, _, rfl, t.x, _, t.dx, _, rfl, i2, T.L_Trip, T.n_Trip_reached, by show 7 < 1000; decide, ?_⟩
    have k3 := k2.rset (r := (m : Int))
    have kp3 : Keeps t H2 (upd H2 t.x (.ins a.c_Trip t.dx [("book", .ref t.b), ("letters", .ref t.lL), ("holders", .ref t.lH), ("arrivals", .ref t.lA), ("passed", .ref t.lP), ("reached", .int (m : Int)), ("deeds", .ref t.lD)])) := Keeps.put (.inl rfl)
    have k3' : TrOk a.c_Trip (upd H2 t.x (.ins a.c_Trip t.dx (putF "reached" (.int (m : Int)) [("book", .ref t.b), ("letters", .ref t.lL), ("holders", .ref t.lH), ("arrivals", .ref t.lA), ("passed", .ref t.lP), ("reached", .int t.r), ("deeds", .ref t.lD)]))) _ rooms tr tm ps (n0 + 1) := k3
    have kp3' : Keeps t H2 (upd H2 t.x (.ins a.c_Trip t.dx (putF "reached" (.int (m : Int)) [("book", .ref t.b), ("letters", .ref t.lL), ("holders", .ref t.lH), ("arrivals", .ref t.lA), ("passed", .ref t.lP), ("reached", .int t.r), ("deeds", .ref t.lD)]))) := kp3
    have i3 : upd H2 t.x (.ins a.c_Trip t.dx (putF "reached" (.int (m : Int)) [("book", .ref t.b), ("letters", .ref t.lL), ("holders", .ref t.lH), ("arrivals", .ref t.lA), ("passed", .ref t.lP), ("reached", .int t.r), ("deeds", .ref t.lD)])) t.x = some (.ins a.c_Trip t.dx [("book", .ref t.b), ("letters", .ref t.lL), ("holders", .ref t.lH), ("arrivals", .ref t.lA), ("passed", .ref t.lP), ("reached", .int (m : Int)), ("deeds", .ref t.lD)]) := upd_same
    refine ⟨_, rfl, t.x, t.dx, _, rfl, i3, rfl, _, rfl, _, rfl, _, rfl, _, _, _, _, _, _, _, _, _, _, _, _, _, _, l, othI p0.2 g, p0.2.t, L, rfl, k3'.at_, hL, by show l < t.os.length; rw [k.lo]; exact hl, fun H4 b4 h4 => ?_⟩
    have k4 := k3'.aset (os := noteA t.os l L.2 (othI p0.2 g) p0.2.t) (by rw [noteA_len]; exact k.lo) b4 h4
    refine q H4 (((kp1.trans kp2).trans kp3').trans (Keeps.but (.inr (.inl rfl)) b4)) ?_
    have e : t.passed m l p0.2 L.2 (othI p0.2 g) = { t.setH l (kvput h.2 (othI p0.2 g) p0.2.t) with ns := t.ns.set m (n + 1), r := (m : Int), os := noteA t.os l L.2 (othI p0.2 g) p0.2.t } := by
      unfold Tr.passed; rw [ek, hn]; rfl
    rw [e]
    exact k4
theorem sc_Trip_do : FnScope ["self", "deed", "kind", "meeting", "letter", "giver", "walker"] ["self", "deed"] (defScope s_Trip_do) := ⟨rfl, rfl, rfl, by decide +kernel, rfl, by decide +kernel, by decide +kernel⟩
theorem ok_Trip_do (T : Tx K mg a) : FnOk P w K mg base (CXE P w) 5 a.a_Trip_do a.d_Trip_do ["self", "deed"] (spDoW a.c_Trip ⟨a.c_NoDeed, a.c_NoMeeting, a.c_NoLetter, a.c_NoWalker, a.c_NotThere, a.c_HasIt, a.c_NoPass, a.c_NoRoom⟩) := by
  have G_is_passing := @ok_is_passing P w _ _ base _ T
  have G_is_drop := @ok_is_drop P w _ _ base _ T
  have G_Trip_need_drop := @ok_Trip_need_drop P w _ _ base _ T
  have G_Trip_need_passing := @ok_Trip_need_passing P w _ _ base _ T
  have G_Trip_pass_on := @ok_Trip_pass_on P w _ _ base _ T
  refine T.F_Trip_do.okE sc_Trip_do (fun vs H Q E h => ?_) (fun cdv A outer s H vs Q E hr h => ?_)
  · obtain ⟨_, _, _, _, _, _, _, rfl, _⟩ := h; rfl
  · have nd := sc_Trip_do.nd
    have hu := hr.units
    obtain ⟨t, y, rooms, tr, tm, ps, n0, rfl, k, n2, h⟩ := h
    refine ⟨_, (@bl_out _ _ _ (@bl_c _ _ _ _ _ _ (@ps_if _ _ _ _ _ _ _ _ (pt_val (pe_call G_is_passing (hr.mono (by decide)) rfl T.m_is_passing T.k_is_passing T.i_is_passing .nil pass0 (@pa_out _ _ _ (@pa_c _ _ _ _ _ (pv 1) pa_n rfl)))) (@bl_out _ _ _ (@bl_c _ _ _ _ _ _ (PS.nox (ps_asg (pv 1) (pg_tup' (n := 4) rfl rfl (pgs_cons (pg_name (i := 2) nd rfl (by first | exact Or.inl rfl | exact Or.inr rfl)) (pgs_cons (pg_name (i := 3) nd rfl (by first | exact Or.inl rfl | exact Or.inr rfl)) (pgs_cons (pg_name (i := 4) nd rfl (by first | exact Or.inl rfl | exact Or.inr rfl)) (pgs_cons (pg_name (i := 5) nd rfl (by first | exact Or.inl rfl | exact Or.inr rfl)) pgs_nil))))))) (@bl_c _ _ _ _ _ _ (ps_expr (pe_meth (E := E) (pv 0) T.L_Trip T.M_Trip_need_passing G_Trip_need_passing (hr.mono (by decide)) T.i_Trip_need_passing .nil (pass_on rfl rfl rfl (fun _ _ z => z)) (@pa_out _ _ _ (@pa_c _ _ _ _ _ (pv 3) (@pa_c _ _ _ _ _ (pv 4) (@pa_c _ _ _ _ _ (pv 5) pa_n rfl) rfl) rfl)))) (@bl_c _ _ _ _ _ _ (PS.nox (ps_expr (pe_meth (pv 0) T.L_Trip T.M_Trip_pass_on G_Trip_pass_on (hr.mono (by decide)) T.i_Trip_pass_on .nil pass0 (@pa_out _ _ _ (@pa_c _ _ _ _ _ (pv 3) (@pa_c _ _ _ _ _ (pv 4) (@pa_c _ _ _ _ _ (pv 5) pa_n rfl) rfl) rfl))))) (@bl_1 _ _ _ (PS.nox (@ps_if _ _ _ _ _ _ _ _ (@pt_cmpR _ _ _ _ _ _ _ _ op_eq (pv 2) pe_str (nomark _)) (@bl_out _ _ _ (@bl_1 _ _ _ (ps_ddel (@pe_ix _ _ _ _ _ _ _ (ix_list' rfl) (pe_fld (pv 0) rfl) (pv 4) (fun _ _ => rfl)) (pv 5)))) pss_nil))))))) (@bl_out _ _ _ (@bl_1 _ _ _ (@ps_if _ _ _ _ _ _ _ _ (pt_val (pe_call G_is_drop (hr.mono (by decide)) rfl T.m_is_drop T.k_is_drop T.i_is_drop .nil pass0 (@pa_out _ _ _ (@pa_c _ _ _ _ _ (pv 1) pa_n rfl)))) (@bl_out _ _ _ (@bl_c _ _ _ _ _ _ (PS.nox (ps_asg (pv 1) (pg_tup' (n := 3) rfl rfl (pgs_cons (pg_name (i := 2) nd rfl (by first | exact Or.inl rfl | exact Or.inr rfl)) (pgs_cons (pg_name (i := 4) nd rfl (by first | exact Or.inl rfl | exact Or.inr rfl)) (pgs_cons (pg_name (i := 6) nd rfl (by first | exact Or.inl rfl | exact Or.inr rfl)) pgs_nil)))))) (@bl_c _ _ _ _ _ _ (ps_expr (pe_meth (E := E) (pv 0) T.L_Trip T.M_Trip_need_drop G_Trip_need_drop (hr.mono (by decide)) T.i_Trip_need_drop .nil (pass_on rfl rfl rfl (fun _ _ z => z)) (@pa_out _ _ _ (@pa_c _ _ _ _ _ (pv 4) (@pa_c _ _ _ _ _ (pv 6) pa_n rfl) rfl)))) (@bl_1 _ _ _ (PS.nox (ps_ddel (@pe_ix _ _ _ _ _ _ _ (ix_list' rfl) (pe_fld (pv 0) rfl) (pv 4) (fun _ _ => rfl)) (pv 6))))))) (@bl_out _ _ _ (@bl_1 _ _ _ (ps_raise rfl rfl rfl rfl rfl T.m_NoDeed T.x_NoDeed))))))) (@bl_1 _ _ _ (PS.nox (ps_expr (pe_bm PySem.F.plainAttrs_list PySem.F.slot_list_append PySem.F.type_list_append mt_append (pe_fld (pv 0) rfl) (@pa_out _ _ _ (@pa_c _ _ _ _ _ (pv 1) pa_n rfl)))))))), ?_⟩
    have line := line9
    rcases h with ⟨d, ⟨p, rfl, hd⟩, q1, q2⟩ | ⟨hn, q⟩
    · cases d with
      | drop l w0 =>
        refine ⟨_, rfl, _, rfl, .inl ⟨.drop l w0, ⟨p, rfl, hd⟩, fun H1 s1 => ⟨_, rfl, iteB0 rfl ⟨_, rfl, _, rfl, .inl ⟨l, w0, ⟨p, rfl, s1 _ _ hd⟩, fun H2 s2 => ⟨_, rfl, iteB1 rfl ?_⟩⟩⟩⟩⟩⟩
        have s12 := s1.trans s2
        have hd2 := s12 _ _ hd
        have k2 := k.same s12
        refine ⟨_, rfl, p, _, rfl, SqT.of hd2, rfl, _, _, rfl, _, _, rfl, _, _, rfl, rfl, ?_⟩
        refine ⟨_, rfl, t.x, t.dx, _, rfl, k2.at_.ins, rfl, _, rfl, _, rfl, t, l, w0, rooms, tr, tm, ps, n0, rfl, k2, fun c => ?_, fun c => q2 c H2 s12⟩
        obtain ⟨l, h, rfl, hl, hh, hw, _, _⟩ := codeD8 c
        obtain ⟨h', hh', ek, hd3⟩ := k2.kvAt hl
        rw [hh] at hh'; cases hh'
        have at1 : atI (t.hs.map fun h => V.ref h.1) (l : Int) = some (V.ref h.1) := atI_nat (by rw [List.getElem?_map, hh]; rfl)
        refine ⟨_, rfl, t.x, _, t.dx, _, _, rfl, k2.at_.ins, T.L_Trip, T.n_Trip_holders, rfl, _, rfl, t.lH, _, _, _, rfl, rfl, SqL.of k2.at_.hol, at1, _, rfl, h.1, _, Sum.inl w0, rfl, hd3, rfl, (by rw [valV_kv, Option.isSome_map]; exact hw), ?_⟩
        rw [dropK_kv]
        have k3 := (k2.mono (Nat.le_succ n0)).hset hh (kv := kvdel h.2 w0) (by have := kvdel_len h.2 w0; have := k.sh h (List.mem_of_getElem? hh); omega)
        have kp3 := (Keeps.same s12).trans (k2.hkeep hh (o := HO.dK (kvV (kvdel h.2 w0))))
        generalize upd H2 h.1 (HO.dK (kvV (kvdel h.2 w0))) = H3 at k3 kp3 ⊢
        refine ⟨_, rfl, t.x, _, t.dx, _, _, rfl, k3.at_.ins, T.L_Trip, T.n_Trip_deeds, rfl, .inl ⟨rfl, _, SqL.of k3.at_.dee⟩, _, rfl, t.lD, t.ds, _, rfl, rfl, k3.at_.dee, by have := k.dn; omega, ?_⟩
        refine q1 c _ (kp3.trans (Keeps.put (.inr (.inr (.inr (.inl rfl)))))) ?_
        have kZ : TrOk a.c_Trip (upd H3 t.lD (.lst (t.ds ++ [V.ref p]))) { t.setH l (kvdel h.2 w0) with ds := t.ds ++ [V.ref p] } rooms tr tm ps (n0 + 1) := k3.dset (by have := k.dn; show t.ds.length < n0 + 1; omega)
        have e : t.doneT (ps.map (·.2)) (V.ref p) (.drop (l : Int) w0) = { t.setH l (kvdel h.2 w0) with ds := t.ds ++ [V.ref p] } := by
          unfold Tr.doneT; dsimp only; rw [Int.toNat_natCast, ek]
        rw [e]; exact kZ
      | pass gv m l g =>
        refine ⟨_, rfl, _, rfl, .inl ⟨.pass gv m l g, ⟨p, rfl, hd⟩, fun H1 s1 => ⟨_, rfl, iteB1 rfl ?_⟩⟩⟩
        have hd1 := s1 _ _ hd
        have k1 := k.same s1
        refine ⟨_, rfl, p, _, rfl, SqT.of hd1, rfl, _, _, rfl, _, _, rfl, _, _, rfl, _, _, rfl, rfl, ?_⟩
        refine ⟨_, rfl, t.x, t.dx, _, rfl, k1.at_.ins, rfl, _, rfl, _, rfl, _, rfl, t, m, l, g, rooms, tr, tm, ps, n0, rfl, k1, fun c H2 s2 => ?_, fun c H2 s2 => q2 c H2 (s1.trans s2)⟩
        obtain ⟨m, l, M, L, h, rfl, rfl, hM, hL, hh, hr', hg, hb, ho, _⟩ := codeP8 k.lh c
        have k2 := k1.same s2
        refine ⟨_, rfl, t.x, t.dx, _, rfl, k2.at_.ins, rfl, _, rfl, _, rfl, _, rfl, t, m, l, g, M, L, rooms, tr, tm, ps, n0, rfl, k2, hM, hL, hg, n2, fun H3 kp3 k3 => ?_⟩
        have kp := (Keeps.same (s1.trans s2)).trans kp3
        have eT : ∀ gv, t.doneT (ps.map (·.2)) (V.ref p) (.pass gv (m : Int) (l : Int) g) = { t.doneP gv m l g M L.2 with ds := t.ds ++ [V.ref p] } := fun gv => by
          unfold Tr.doneT; dsimp only; rw [Int.toNat_natCast, Int.toNat_natCast, hM, hL]
        refine ⟨_, rfl, rfl, _, rfl, ?_⟩
        cases gv with
        | false =>
          refine iteB0 rfl ?_
          refine ⟨_, rfl, t.x, _, t.dx, _, _, rfl, k3.at_.ins, T.L_Trip, T.n_Trip_deeds, rfl, .inl ⟨rfl, _, SqL.of k3.at_.dee⟩, _, rfl, t.lD, t.ds, _, rfl, rfl, k3.at_.dee, by have := k.dn; omega, ?_⟩
          refine q1 c _ (kp.trans (Keeps.put (.inr (.inr (.inr (.inl rfl)))))) ?_
          have kZ : TrOk a.c_Trip (upd H3 t.lD (.lst (t.ds ++ [V.ref p]))) { t.passed m l M L.2 (othI M g) with ds := t.ds ++ [V.ref p] } rooms tr tm ps (n0 + 1) := k3.dset (by have := k.dn; show t.ds.length < n0 + 1; omega)
          rw [eT]; exact kZ
        | true =>
          have pk := passed_kv (m := m) (M := M) (L := L.2) (o := othI M g) (C := a.c_Trip) (H := H) (rooms := rooms) (tr := tr) (tm := tm) (ps := ps) (n0 := n0) hh
          have lp : l < (t.passed m l M L.2 (othI M g)).ls.length := (List.getElem?_eq_some_iff.mp hL).1
          obtain ⟨h', hh', ek, hd3⟩ := k3.kvAt lp
          rw [pk.1] at hh'; cases hh'
          have at1 : atI ((t.passed m l M L.2 (othI M g)).hs.map fun h => V.ref h.1) (l : Int) = some (V.ref h.1) := atI_nat (by rw [List.getElem?_map, pk.1]; rfl)
          refine iteB1 rfl ⟨_, rfl, t.x, _, t.dx, _, _, rfl, k3.at_.ins, T.L_Trip, T.n_Trip_holders, rfl, _, rfl, t.lH, _, _, _, rfl, rfl, SqL.of k3.at_.hol, at1, _, rfl, h.1, _, Sum.inl g, rfl, hd3, rfl, (by rw [valV_kv, Option.isSome_map, kvget_put]; split; rfl; exact below_some hb), ?_⟩
          rw [dropK_kv]
          have k4 := k3.hset pk.1 (kv := kvdel (kvput h.2 (othI M g) M.t) g) (by have := kvdel_len (kvput h.2 (othI M g) M.t) g; have := kvput_len h.2 (othI M g) M.t; have := k.sh h (List.mem_of_getElem? hh); omega)
          have kp4 : Keeps t H (upd H3 h.1 (HO.dK (kvV (kvdel (kvput h.2 (othI M g) M.t) g)))) := kp.trans (Keeps.put (.inr (.inr (.inr (.inr (List.mem_map.mpr ⟨h, List.mem_of_getElem? hh, rfl⟩))))))
          have k4' : TrOk a.c_Trip (upd H3 h.1 (HO.dK (kvV (kvdel (kvput h.2 (othI M g) M.t) g)))) ((t.passed m l M L.2 (othI M g)).setH l (kvdel (kvput h.2 (othI M g) M.t) g)) rooms tr tm ps (n0 + 1) := k4
          generalize upd H3 h.1 (HO.dK (kvV (kvdel (kvput h.2 (othI M g) M.t) g))) = H4 at k4' kp4 ⊢
          refine ⟨_, rfl, t.x, _, t.dx, _, _, rfl, k4'.at_.ins, T.L_Trip, T.n_Trip_deeds, rfl, .inl ⟨rfl, _, SqL.of k4'.at_.dee⟩, _, rfl, t.lD, t.ds, _, rfl, rfl, k4'.at_.dee, by have := k.dn; omega, ?_⟩
          refine q1 c _ (kp4.trans (Keeps.put (.inr (.inr (.inr (.inl rfl)))))) ?_
          have kZ : TrOk a.c_Trip (upd H4 t.lD (.lst (t.ds ++ [V.ref p]))) { (t.passed m l M L.2 (othI M g)).setH l (kvdel (kvput h.2 (othI M g) M.t) g) with ds := t.ds ++ [V.ref p] } rooms tr tm ps (n0 + 1) := k4'.dset (by have := k.dn; show t.ds.length < n0 + 1; omega)
          rw [eT]
          have eP : t.doneP true m l g M L.2 = (t.passed m l M L.2 (othI M g)).setH l (kvdel (kvput h.2 (othI M g) M.t) g) := by
            unfold Tr.doneP; rw [if_pos rfl, pk.2]
          rw [eP]; exact kZ
    · exact ⟨_, rfl, _, rfl, .inr ⟨hn, fun H1 s1 => ⟨_, rfl, iteB0 rfl ⟨_, rfl, _, rfl, .inr ⟨hn.same s1, fun H2 s2 => ⟨_, rfl, iteB0 rfl (q _ (s1.trans s2))⟩⟩⟩⟩⟩⟩
theorem sc__law_any : FnScope ["_law_purse_here", "_law_many", "_law_way"] ["_law_purse_here", "_law_many"] (defScope s__law_any) := ⟨rfl, rfl, rfl, by decide +kernel, rfl, by decide +kernel, by decide +kernel⟩
theorem ok__law_any (T : Tx K mg a) : FnOk P w K mg base CX0 2 a.a__law_any a.d__law_any ["_law_purse_here", "_law_many"] (spAny) := by
  have G__law_take := @ok__law_take P w _ _ base _ T
  refine T.F__law_any.ok sc__law_any (fun vs H Q E h => ?_) (fun cdv A outer s H vs Q E hr h => ?_)
  · obtain ⟨_, _, rfl, _⟩ := h; rfl
  · have nd := sc__law_any.nd
    have hu := hr.units
    obtain ⟨p, n, rfl, m0, m1, pu, q⟩ := h
    refine ⟨_, (@bl_out _ _ _ (@bl_c _ _ _ _ _ _ (ps_set (i := 2) nd rfl (by first | exact Or.inl rfl | exact Or.inr rfl) (pe_call G__law_take (hr.mono (by decide)) rfl T.m__law_take T.k__law_take T.i__law_take .nil pass0 (@pa_out _ _ _ (@pa_c _ _ _ _ _ (pv 0) (@pa_c _ _ _ _ _ pe_int pa_n rfl) rfl)))) (@bl_c _ _ _ _ _ _ (@ps_if _ _ _ _ _ _ _ _ (@pt_cmpR _ _ _ _ _ _ _ _ op_eq (pv 2) pe_int (nomark _)) (@bl_out _ _ _ (@bl_1 _ _ _ (@ps_ret _ _ _ _ (@pe_op _ _ _ _ _ _ _ _ op_sub (@pe_un _ _ _ _ _ _ un_neg pe_int) (pe_call G__law_take (hr.mono (by decide)) rfl T.m__law_take T.k__law_take T.i__law_take .nil pass0 (@pa_out _ _ _ (@pa_c _ _ _ _ _ (pv 0) (@pa_c _ _ _ _ _ pe_int pa_n rfl) rfl))))))) pss_nil) (@bl_c _ _ _ _ _ _ (@ps_if _ _ _ _ _ _ _ _ (@pt_cmpR _ _ _ _ _ _ _ _ op_eq (pv 2) pe_int (nomark _)) (@bl_out _ _ _ (@bl_1 _ _ _ (@ps_ret _ _ _ _ (@pe_op _ _ _ _ _ _ _ _ op_add (pv 1) (pe_call G__law_take (hr.mono (by decide)) rfl T.m__law_take T.k__law_take T.i__law_take .nil pass0 (@pa_out _ _ _ (@pa_c _ _ _ _ _ (pv 0) (@pa_c _ _ _ _ _ pe_int pa_n rfl) rfl))))))) pss_nil) (@bl_c _ _ _ _ _ _ (@ps_if _ _ _ _ _ _ _ _ (@pt_cmpR _ _ _ _ _ _ _ _ op_eq (pv 2) pe_int (nomark _)) (@bl_out _ _ _ (@bl_1 _ _ _ (@ps_ret _ _ _ _ (@pe_op _ _ _ _ _ _ _ _ op_sub (pe_call G__law_take (hr.mono (by decide)) rfl T.m__law_take T.k__law_take T.i__law_take .nil pass0 (@pa_out _ _ _ (@pa_c _ _ _ _ _ (pv 0) (@pa_c _ _ _ _ _ (@pe_op _ _ _ _ _ _ _ _ op_pow pe_int pe_int) pa_n rfl) rfl))) (@pe_op _ _ _ _ _ _ _ _ op_mul pe_int (@pe_op _ _ _ _ _ _ _ _ op_pow pe_int pe_int)))))) pss_nil) (@bl_c _ _ _ _ _ _ (@ps_if _ _ _ _ _ _ _ _ (@pt_cmpR _ _ _ _ _ _ _ _ op_eq (pv 2) pe_int (nomark _)) (@bl_out _ _ _ (@bl_1 _ _ _ (@ps_ret _ _ _ _ (pe_call G__law_take (hr.mono (by decide)) rfl T.m__law_take T.k__law_take T.i__law_take .nil pass0 (@pa_out _ _ _ (@pa_c _ _ _ _ _ (pv 0) (@pa_c _ _ _ _ _ (@pe_op _ _ _ _ _ _ _ _ op_pow pe_int pe_int) pa_n rfl) rfl)))))) pss_nil) (@bl_1 _ _ _ (@ps_ret _ _ _ _ (pe_call G__law_take (hr.mono (by decide)) rfl T.m__law_take T.k__law_take T.i__law_take .nil pass0 (@pa_out _ _ _ (@pa_c _ _ _ _ _ (pv 0) (@pa_c _ _ _ _ _ (pe_callB (call_max2 rfl) (by rfl) T.b_max PyProof.Rows.boot_max (@pa_out _ _ _ (@pa_c _ _ _ _ _ pe_int (@pa_c _ _ _ _ _ (pv 1) pa_n rfl) rfl))) pa_n rfl) rfl))))))))))), ?_⟩
    have line := line9
    have c30 : CPow 10 30 := ⟨by decide, by decide, by decide⟩
    have c29 : CPow 10 29 := ⟨by decide, by decide, by decide⟩
    have e200 : (2 : Int) ^ 200 > 100000 := by decide
    refine ⟨_, rfl, p, 8, rfl, by decide, by decide, pu, fun d1 H1 d0 d8 g1 => ?_⟩
    refine ⟨_, rfl, rfl, _, rfl, iteB (fun c => ?_) (fun c => ?_)⟩
    · exact ⟨_, rfl, _, rfl, p, 3, rfl, by decide, by decide, g1.2, fun d2 H2 e0 e3 g2 => ⟨_, _, rfl, rfl, q _ _ (g1.trans g2)⟩⟩
    refine ⟨_, rfl, rfl, _, rfl, iteB (fun c => ?_) (fun c => ?_)⟩
    · exact ⟨_, rfl, _, rfl, p, 3, rfl, by decide, by decide, g1.2, fun d2 H2 e0 e3 g2 => ⟨_, _, rfl, rfl, q _ _ (g1.trans g2)⟩⟩
    refine ⟨_, rfl, rfl, _, rfl, iteB (fun c => ?_) (fun c => ?_)⟩
    · refine ⟨_, rfl, _, _, rfl, rfl, c30, p, _, rfl, by decide, by decide, g1.2, fun d2 H2 e0 e64 g2 => ?_⟩
      exact ⟨_, _, rfl, rfl, c29, _, _, rfl, rfl, .inl ⟨by decide, by decide⟩, _, _, rfl, rfl, q _ _ (g1.trans g2)⟩
    refine ⟨_, rfl, rfl, _, rfl, iteB (fun c => ?_) (fun c => ?_)⟩
    · exact ⟨_, rfl, _, _, rfl, rfl, c30, p, _, rfl, by decide, by decide, g1.2, fun d2 H2 e0 e64 g2 => q _ _ (g1.trans g2)⟩
    refine ⟨_, rfl, _, rfl, _, _, rfl, p, _, rfl, by split <;> omega, by split <;> omega, g1.2, fun d2 H2 e0 e64 g2 => q _ _ (g1.trans g2)⟩
theorem sc__law_does : FnScope ["_law_trip", "_law_deed", "_law_caught", "_law_told", "e", "_law_kinds", "_law_other"] ["_law_trip", "_law_deed"] (defScope s__law_does) := ⟨rfl, rfl, rfl, by decide +kernel, rfl, by decide +kernel, by decide +kernel⟩
theorem ok__law_does (T : Tx K mg a) : FnOk P w K mg base CX0 6 a.a__law_does a.d__law_does ["_law_trip", "_law_deed"] (spDoesW a.c_Trip) := by
  have G_Trip_do := @ok_Trip_do P w _ _ base _ T
  refine T.F__law_does.ok sc__law_does (fun vs H Q E h => ?_) (fun cdv A outer s H vs Q E hr h => ?_)
  · obtain ⟨_, _, _, _, _, _, _, rfl, _⟩ := h; rfl
  · have nd := sc__law_does.nd
    have hu := hr.units
    obtain ⟨t, y, rooms, tr, tm, ps, n0, rfl, k, n2, h⟩ := h
    refine ⟨_, (@bl_out _ _ _ (@bl_c _ _ _ _ _ _ (ps_set (i := 2) nd rfl (by first | exact Or.inl rfl | exact Or.inr rfl) pe_non) (@bl_c _ _ _ _ _ _ (ps_set (i := 3) nd rfl (by first | exact Or.inl rfl | exact Or.inr rfl) pe_non) (@bl_c _ _ _ _ _ _ (ps_tryAs (i := 4) rfl (psx_setMeth (i := 3) (pv 0) T.L_Trip T.M_Trip_do G_Trip_do (hr.mono (by decide)) T.i_Trip_do .nil nd rfl (by first | exact Or.inl rfl | exact Or.inr rfl) (@pa_out _ _ _ (@pa_c _ _ _ _ _ (pv 1) pa_n rfl))) rfl rfl rfl T.m_MeetError nd rfl rfl (fun _ => (@bl_out _ _ _ (@bl_1 _ _ _ (ps_set (i := 2) nd rfl (by first | exact Or.inl rfl | exact Or.inr rfl) (pv 4)))))) (@bl_c _ _ _ _ _ _ (@ps_if _ _ _ _ _ _ _ _ (pt_cmp (@pc_isN _ _ _ _ _ (pv 2))) (@bl_out _ _ _ (@bl_1 _ _ _ (@ps_ret _ _ _ _ (@pe_ix _ _ _ _ _ _ _ (ix_list' rfl) (@pe_lst _ _ _ _ (@pa_out _ _ _ (@pa_c _ _ _ _ _ pe_int (@pa_c _ _ _ _ _ pe_int pa_n rfl) rfl))) (pe_callTy (call_int1) (by rfl) T.b_int PyProof.Rows.boot_int (@pa_out _ _ _ (@pa_c _ _ _ _ _ (pe_cmp (@pc_isN _ _ _ _ _ (pv 3))) pa_n rfl))) (fun _ _ => rfl))))) pss_nil) (@bl_c _ _ _ _ _ _ (ps_set (i := 5) nd rfl (by first | exact Or.inl rfl | exact Or.inr rfl) (@pe_lst _ _ _ _ (@pa_out _ _ _ (@pa_c _ _ _ _ _ (pe_callB (call_isX rfl) (by rfl) T.b_isinstance PyProof.Rows.boot_isinstance (@pa_out _ _ _ (@pa_c _ _ _ _ _ (pv 2) (@pa_c _ _ _ _ _ (pe_glob (v := V.ref a.c_NoDeed) (by rfl) T.m_NoDeed rfl) pa_n rfl) rfl))) (@pa_c _ _ _ _ _ (pe_callB (call_isX rfl) (by rfl) T.b_isinstance PyProof.Rows.boot_isinstance (@pa_out _ _ _ (@pa_c _ _ _ _ _ (pv 2) (@pa_c _ _ _ _ _ (pe_glob (v := V.ref a.c_NoMeeting) (by rfl) T.m_NoMeeting rfl) pa_n rfl) rfl))) pa_n rfl) rfl)))) (@bl_c _ _ _ _ _ _ (ps_set (i := 5) nd rfl (by first | exact Or.inl rfl | exact Or.inr rfl) (@pe_op _ _ _ _ _ _ _ _ op_cat (pv 5) (@pe_lst _ _ _ _ (@pa_out _ _ _ (@pa_c _ _ _ _ _ (pe_callB (call_isX rfl) (by rfl) T.b_isinstance PyProof.Rows.boot_isinstance (@pa_out _ _ _ (@pa_c _ _ _ _ _ (pv 2) (@pa_c _ _ _ _ _ (pe_glob (v := V.ref a.c_NoLetter) (by rfl) T.m_NoLetter rfl) pa_n rfl) rfl))) (@pa_c _ _ _ _ _ (pe_callB (call_isX rfl) (by rfl) T.b_isinstance PyProof.Rows.boot_isinstance (@pa_out _ _ _ (@pa_c _ _ _ _ _ (pv 2) (@pa_c _ _ _ _ _ (pe_glob (v := V.ref a.c_NoWalker) (by rfl) T.m_NoWalker rfl) pa_n rfl) rfl))) pa_n rfl) rfl))))) (@bl_c _ _ _ _ _ _ (ps_set (i := 5) nd rfl (by first | exact Or.inl rfl | exact Or.inr rfl) (@pe_op _ _ _ _ _ _ _ _ op_cat (pv 5) (@pe_lst _ _ _ _ (@pa_out _ _ _ (@pa_c _ _ _ _ _ (pe_callB (call_isX rfl) (by rfl) T.b_isinstance PyProof.Rows.boot_isinstance (@pa_out _ _ _ (@pa_c _ _ _ _ _ (pv 2) (@pa_c _ _ _ _ _ (pe_glob (v := V.ref a.c_NotThere) (by rfl) T.m_NotThere rfl) pa_n rfl) rfl))) (@pa_c _ _ _ _ _ (pe_callB (call_isX rfl) (by rfl) T.b_isinstance PyProof.Rows.boot_isinstance (@pa_out _ _ _ (@pa_c _ _ _ _ _ (pv 2) (@pa_c _ _ _ _ _ (pe_glob (v := V.ref a.c_HasIt) (by rfl) T.m_HasIt rfl) pa_n rfl) rfl))) pa_n rfl) rfl))))) (@bl_c _ _ _ _ _ _ (ps_set (i := 5) nd rfl (by first | exact Or.inl rfl | exact Or.inr rfl) (@pe_op _ _ _ _ _ _ _ _ op_cat (pv 5) (@pe_lst _ _ _ _ (@pa_out _ _ _ (@pa_c _ _ _ _ _ (pe_callB (call_isX rfl) (by rfl) T.b_isinstance PyProof.Rows.boot_isinstance (@pa_out _ _ _ (@pa_c _ _ _ _ _ (pv 2) (@pa_c _ _ _ _ _ (pe_glob (v := V.ref a.c_NoPass) (by rfl) T.m_NoPass rfl) pa_n rfl) rfl))) (@pa_c _ _ _ _ _ (pe_callB (call_isX rfl) (by rfl) T.b_isinstance PyProof.Rows.boot_isinstance (@pa_out _ _ _ (@pa_c _ _ _ _ _ (pv 2) (@pa_c _ _ _ _ _ (pe_glob (v := V.ref a.c_NoRoom) (by rfl) T.m_NoRoom rfl) pa_n rfl) rfl))) pa_n rfl) rfl))))) (@bl_c _ _ _ _ _ _ (@ps_set _ _ 6 _ _ _ _ nd rfl (by first | exact Or.inl rfl | exact Or.inr rfl) (pe_callB (call_isXT rfl) (by rfl) T.b_isinstance PyProof.Rows.boot_isinstance (@pa_out _ _ _ (@pa_c _ _ _ _ _ (pv 2) (@pa_c _ _ _ _ _ (@pe_tup _ _ _ _ _ (@pa_out _ _ _ (@pa_c _ _ _ _ _ (pe_glob (v := V.ref a.c_NoBook) (by rfl) T.m_NoBook rfl) (@pa_c _ _ _ _ _ (pe_glob (v := V.ref a.c_NoRule) (by rfl) T.m_NoRule rfl) (@pa_c _ _ _ _ _ (pe_glob (v := V.ref a.c_TooMany) (by rfl) T.m_TooMany rfl) (@pa_c _ _ _ _ _ (pe_glob (v := V.ref a.c_NoDay) (by rfl) T.m_NoDay rfl) (@pa_c _ _ _ _ _ (pe_glob (v := V.ref a.c_NoClaim) (by rfl) T.m_NoClaim rfl) (@pa_c _ _ _ _ _ (pe_glob (v := V.ref a.c_NoText) (by rfl) T.m_NoText rfl) (@pa_c _ _ _ _ _ (pe_glob (v := V.ref a.c_NoRow) (by rfl) T.m_NoRow rfl) (@pa_c _ _ _ _ _ (pe_glob (v := V.ref a.c_NoName) (by rfl) T.m_NoName rfl) (@pa_c _ _ _ _ _ (pe_glob (v := V.ref a.c_Twice) (by rfl) T.m_Twice rfl) pa_n rfl) rfl) rfl) rfl) rfl) rfl) rfl) rfl) rfl))) pa_n rfl) rfl))) rfl (by first | exact .inl rfl | exact .inr rfl | assumption)) (@bl_c _ _ _ _ _ _ (@ps_if _ _ _ _ _ _ _ _ (@PW.pt _ _ _ (@pw_or _ _ _ _ _ _ _ (pt_val (pv 6)) (@pw_or _ _ _ _ _ _ _ (@pt_not _ _ _ _ (pt_val (pe_callB (call_isX rfl) (by rfl) T.b_isinstance PyProof.Rows.boot_isinstance (@pa_out _ _ _ (@pa_c _ _ _ _ _ (pv 2) (@pa_c _ _ _ _ _ (pe_bltn (v := V.ty "ValueError") rfl T.b_ValueError PyProof.Rows.Boot.«ValueError» rfl) pa_n rfl) rfl))))) (@pw_or1 _ _ _ _ (@pt_cmpR _ _ _ _ _ _ _ _ op_ne (pe_bm PySem.F.plainAttrs_list PySem.F.slot_list_count PySem.F.type_list_count (mt_count rfl (by exact hu)) (pv 5) (@pa_out _ _ _ (@pa_c _ _ _ _ _ pe_bl pa_n rfl))) pe_int (nomark _)))))) (@bl_out _ _ _ (@bl_1 _ _ _ (@ps_ret _ _ _ _ pe_int))) pss_nil) (@bl_1 _ _ _ (@ps_ret _ _ _ _ (pe_bm PySem.F.plainAttrs_list PySem.F.slot_list_index PySem.F.type_list_index (mt_index rfl (by exact hu)) (pv 5) (@pa_out _ _ _ (@pa_c _ _ _ _ _ pe_bl pa_n rfl)))))))))))))))), ?_⟩
    have line := line9
    rcases h with ⟨d, hd, q1, q2⟩ | ⟨hn, q⟩
    · refine ⟨_, rfl, t.x, t.dx, _, rfl, k.at_.ins, rfl, _, rfl, t, y, rooms, tr, tm, ps, n0, rfl, k, n2, .inl ⟨d, hd, fun c H1 kp k1 => ?_, fun c H1 s1 => ?_⟩⟩
      · refine ⟨_, rfl, _, rfl, iteB1 rfl ⟨by show 2 ≤ sizeLine; omega, fun l1 hl1 => ⟨_, rfl, .inr ⟨_, rfl, l1, _, _, _, rfl, rfl, SqL.of upd_same, rfl, ?_⟩⟩⟩⟩
        have s1 := same_new (o := HO.lst [V.int 9, V.int 8]) hl1
        exact q1 c _ (kp.trans (Keeps.same s1)) (k1.same s1)
      · have cl := codeT_lt c
        replace q2 := q2 c
        generalize codeT rooms (ps.map (·.2)) t d = nn at cl q2 ⊢
        have xc := xcB.at T.f_xc (n := nn) cl
        refine ⟨xc.1, _, rfl, fun e he => ?_⟩
        have s2 := s1.trans (same_new (o := excO e (XC.of ⟨a.c_NoDeed, a.c_NoMeeting, a.c_NoLetter, a.c_NoWalker, a.c_NotThere, a.c_HasIt, a.c_NoPass, a.c_NoRoom⟩ nn)) he)
        have he2 : upd H1 e (excO e (XC.of ⟨a.c_NoDeed, a.c_NoMeeting, a.c_NoLetter, a.c_NoWalker, a.c_NotThere, a.c_HasIt, a.c_NoPass, a.c_NoRoom⟩ nn)) e = some (excO e (XC.of ⟨a.c_NoDeed, a.c_NoMeeting, a.c_NoLetter, a.c_NoWalker, a.c_NotThere, a.c_HasIt, a.c_NoPass, a.c_NoRoom⟩ nn)) := upd_same
        generalize upd H1 e (excO e (XC.of ⟨a.c_NoDeed, a.c_NoMeeting, a.c_NoLetter, a.c_NoWalker, a.c_NotThere, a.c_HasIt, a.c_NoPass, a.c_NoRoom⟩ nn)) = H2 at s2 he2 ⊢
        refine ⟨_, rfl, _, rfl, _, rfl, iteB0 rfl ⟨_, rfl, e, _, _, _, rfl, he2, xc.2.2.2.1, rfl, xc.2.2.2.2 0 (by decide), _, rfl, e, _, _, _, rfl, he2, xc.2.2.2.1, rfl, xc.2.2.2.2 1 (by decide), by show 2 ≤ sizeLine; omega, fun l1 hl1 => ?_⟩⟩
        have s3 := s2.trans (same_new (o := HO.lst [V.bl (nn == 0), V.bl (nn == 1)]) hl1)
        have he3 := same_new (o := HO.lst [V.bl (nn == 0), V.bl (nn == 1)]) hl1 _ _ he2
        have k3 : upd H2 l1 (HO.lst [V.bl (nn == 0), V.bl (nn == 1)]) l1 = some (.lst [V.bl (nn == 0), V.bl (nn == 1)]) := upd_same
        generalize upd H2 l1 (HO.lst [V.bl (nn == 0), V.bl (nn == 1)]) = H3 at s3 he3 k3 ⊢
        refine ⟨_, rfl, _, rfl, e, _, _, _, rfl, he3, xc.2.2.2.1, rfl, xc.2.2.2.2 2 (by decide), _, rfl, e, _, _, _, rfl, he3, xc.2.2.2.1, rfl, xc.2.2.2.2 3 (by decide), by show 2 ≤ sizeLine; omega, fun lx0 hlx0 => ⟨l1, lx0, _, _, rfl, rfl, same_new hlx0 _ _ k3, upd_same, by show 4 ≤ sizeLine; omega, fun l2 hl2 => ?_⟩⟩
        have sX := (same_new (o := HO.lst [V.bl (nn == 2), V.bl (nn == 3)]) hlx0).trans (same_new (o := HO.lst [V.bl (nn == 0), V.bl (nn == 1), V.bl (nn == 2), V.bl (nn == 3)]) hl2)
        have s4 := s3.trans sX
        have he4 := sX _ _ he3
        have k4 : upd (upd H3 lx0 (HO.lst [V.bl (nn == 2), V.bl (nn == 3)])) l2 (HO.lst [V.bl (nn == 0), V.bl (nn == 1), V.bl (nn == 2), V.bl (nn == 3)]) l2 = some (.lst [V.bl (nn == 0), V.bl (nn == 1), V.bl (nn == 2), V.bl (nn == 3)]) := upd_same
        change tSeq _ _ _ _ (upd (upd H3 lx0 (HO.lst [V.bl (nn == 2), V.bl (nn == 3)])) l2 (HO.lst [V.bl (nn == 0), V.bl (nn == 1), V.bl (nn == 2), V.bl (nn == 3)]))
        generalize upd (upd H3 lx0 (HO.lst [V.bl (nn == 2), V.bl (nn == 3)])) l2 (HO.lst [V.bl (nn == 0), V.bl (nn == 1), V.bl (nn == 2), V.bl (nn == 3)]) = H4 at s4 he4 k4 ⊢
        clear sX
        refine ⟨_, rfl, _, rfl, e, _, _, _, rfl, he4, xc.2.2.2.1, rfl, xc.2.2.2.2 4 (by decide), _, rfl, e, _, _, _, rfl, he4, xc.2.2.2.1, rfl, xc.2.2.2.2 5 (by decide), by show 2 ≤ sizeLine; omega, fun lx1 hlx1 => ⟨l2, lx1, _, _, rfl, rfl, same_new hlx1 _ _ k4, upd_same, by show 6 ≤ sizeLine; omega, fun l3 hl3 => ?_⟩⟩
        have sX := (same_new (o := HO.lst [V.bl (nn == 4), V.bl (nn == 5)]) hlx1).trans (same_new (o := HO.lst [V.bl (nn == 0), V.bl (nn == 1), V.bl (nn == 2), V.bl (nn == 3), V.bl (nn == 4), V.bl (nn == 5)]) hl3)
        have s5 := s4.trans sX
        have he5 := sX _ _ he4
        have k5 : upd (upd H4 lx1 (HO.lst [V.bl (nn == 4), V.bl (nn == 5)])) l3 (HO.lst [V.bl (nn == 0), V.bl (nn == 1), V.bl (nn == 2), V.bl (nn == 3), V.bl (nn == 4), V.bl (nn == 5)]) l3 = some (.lst [V.bl (nn == 0), V.bl (nn == 1), V.bl (nn == 2), V.bl (nn == 3), V.bl (nn == 4), V.bl (nn == 5)]) := upd_same
        change tSeq _ _ _ _ (upd (upd H4 lx1 (HO.lst [V.bl (nn == 4), V.bl (nn == 5)])) l3 (HO.lst [V.bl (nn == 0), V.bl (nn == 1), V.bl (nn == 2), V.bl (nn == 3), V.bl (nn == 4), V.bl (nn == 5)]))
        generalize upd (upd H4 lx1 (HO.lst [V.bl (nn == 4), V.bl (nn == 5)])) l3 (HO.lst [V.bl (nn == 0), V.bl (nn == 1), V.bl (nn == 2), V.bl (nn == 3), V.bl (nn == 4), V.bl (nn == 5)]) = H5 at s5 he5 k5 ⊢
        clear sX
        refine ⟨_, rfl, _, rfl, e, _, _, _, rfl, he5, xc.2.2.2.1, rfl, xc.2.2.2.2 6 (by decide), _, rfl, e, _, _, _, rfl, he5, xc.2.2.2.1, rfl, xc.2.2.2.2 7 (by decide), by show 2 ≤ sizeLine; omega, fun lx2 hlx2 => ⟨l3, lx2, _, _, rfl, rfl, same_new hlx2 _ _ k5, upd_same, by show 8 ≤ sizeLine; omega, fun l4 hl4 => ?_⟩⟩
        have sX := (same_new (o := HO.lst [V.bl (nn == 6), V.bl (nn == 7)]) hlx2).trans (same_new (o := HO.lst [V.bl (nn == 0), V.bl (nn == 1), V.bl (nn == 2), V.bl (nn == 3), V.bl (nn == 4), V.bl (nn == 5), V.bl (nn == 6), V.bl (nn == 7)]) hl4)
        have s6 := s5.trans sX
        have he6 := sX _ _ he5
        have k6 : upd (upd H5 lx2 (HO.lst [V.bl (nn == 6), V.bl (nn == 7)])) l4 (HO.lst [V.bl (nn == 0), V.bl (nn == 1), V.bl (nn == 2), V.bl (nn == 3), V.bl (nn == 4), V.bl (nn == 5), V.bl (nn == 6), V.bl (nn == 7)]) l4 = some (.lst [V.bl (nn == 0), V.bl (nn == 1), V.bl (nn == 2), V.bl (nn == 3), V.bl (nn == 4), V.bl (nn == 5), V.bl (nn == 6), V.bl (nn == 7)]) := upd_same
        change tSeq _ _ _ _ (upd (upd H5 lx2 (HO.lst [V.bl (nn == 6), V.bl (nn == 7)])) l4 (HO.lst [V.bl (nn == 0), V.bl (nn == 1), V.bl (nn == 2), V.bl (nn == 3), V.bl (nn == 4), V.bl (nn == 5), V.bl (nn == 6), V.bl (nn == 7)]))
        generalize upd (upd H5 lx2 (HO.lst [V.bl (nn == 6), V.bl (nn == 7)])) l4 (HO.lst [V.bl (nn == 0), V.bl (nn == 1), V.bl (nn == 2), V.bl (nn == 3), V.bl (nn == 4), V.bl (nn == 5), V.bl (nn == 6), V.bl (nn == 7)]) = H6 at s6 he6 k6 ⊢
        clear sX
        refine ⟨_, rfl, by show 9 ≤ _; omega, fun t1 ht1 => ⟨e, _, t1, _, false, rfl, same_new ht1 _ _ he6, xc.2.2.2.1, SqT.of upd_same, rfl, xc.2.2.1, ?_⟩⟩
        have s7 := s6.trans (same_new (o := HO.tup [V.ref a.c_NoBook, V.ref a.c_NoRule, V.ref a.c_TooMany, V.ref a.c_NoDay, V.ref a.c_NoClaim, V.ref a.c_NoText, V.ref a.c_NoRow, V.ref a.c_NoName, V.ref a.c_Twice]) ht1)
        have he7 := same_new (o := HO.tup [V.ref a.c_NoBook, V.ref a.c_NoRule, V.ref a.c_TooMany, V.ref a.c_NoDay, V.ref a.c_NoClaim, V.ref a.c_NoText, V.ref a.c_NoRow, V.ref a.c_NoName, V.ref a.c_Twice]) ht1 _ _ he6
        have k7 := same_new (o := HO.tup [V.ref a.c_NoBook, V.ref a.c_NoRule, V.ref a.c_TooMany, V.ref a.c_NoDay, V.ref a.c_NoClaim, V.ref a.c_NoText, V.ref a.c_NoRow, V.ref a.c_NoName, V.ref a.c_Twice]) ht1 _ _ k6
        generalize upd H6 t1 (HO.tup [V.ref a.c_NoBook, V.ref a.c_NoRule, V.ref a.c_TooMany, V.ref a.c_NoDay, V.ref a.c_NoClaim, V.ref a.c_NoText, V.ref a.c_NoRow, V.ref a.c_NoName, V.ref a.c_Twice]) = H7 at s7 he7 k7 ⊢
        refine ⟨_, rfl, _, rfl, iteB0 rfl ⟨_, rfl, e, _, _, _, rfl, he7, xc.2.2.2.1, rfl, xc.2.1, _, rfl, iteB0 rfl ?_⟩⟩
        refine ⟨_, rfl, .inl ⟨rfl, _, SqL.of k7⟩, 0, l4, kindsL nn, _, fun u => decide (u = V.bl true), by decide, rfl, rfl, SqL.of k7, kinds_eqv, rfl, _, rfl, iteB0 (by rw [kinds_count nn cl]; rfl) ?_⟩
        refine ⟨_, rfl, .inl ⟨rfl, _, SqL.of k7⟩, 0, l4, kindsL nn, _, fun u => decide (u = V.bl true), nn, _, by decide, rfl, rfl, SqL.of k7, kinds_eqv, kinds_at nn cl, rfl, fun m hm w0 hw => (by rw [kinds_no nn cl m hm] at hw; cases hw; rfl), (by have := cl; omega), ?_⟩
        exact q2 _ s7
    · refine ⟨_, rfl, t.x, t.dx, _, rfl, k.at_.ins, rfl, _, rfl, t, _, rooms, tr, tm, ps, n0, rfl, k, n2, .inr ⟨hn, fun H1 s1 => ?_⟩⟩
      show PySem.W.exmOne _ (Value.ref (XC.of ⟨a.c_NoDeed, a.c_NoMeeting, a.c_NoLetter, a.c_NoWalker, a.c_NotThere, a.c_HasIt, a.c_NoPass, a.c_NoRoom⟩ 0)) _ = some true ∧ ∃ C, Value.ref (XC.of ⟨a.c_NoDeed, a.c_NoMeeting, a.c_NoLetter, a.c_NoWalker, a.c_NotThere, a.c_HasIt, a.c_NoPass, a.c_NoRoom⟩ 0) = Value.ref C ∧ _
      have xc := xcB.at T.f_xc (n := 0) (by decide : 0 < 8)
      refine ⟨xc.1, _, rfl, fun e he => ?_⟩
      have s2 := s1.trans (same_new (o := excO e (XC.of ⟨a.c_NoDeed, a.c_NoMeeting, a.c_NoLetter, a.c_NoWalker, a.c_NotThere, a.c_HasIt, a.c_NoPass, a.c_NoRoom⟩ 0)) he)
      have he2 : upd H1 e (excO e (XC.of ⟨a.c_NoDeed, a.c_NoMeeting, a.c_NoLetter, a.c_NoWalker, a.c_NotThere, a.c_HasIt, a.c_NoPass, a.c_NoRoom⟩ 0)) e = some (excO e (XC.of ⟨a.c_NoDeed, a.c_NoMeeting, a.c_NoLetter, a.c_NoWalker, a.c_NotThere, a.c_HasIt, a.c_NoPass, a.c_NoRoom⟩ 0)) := upd_same
      generalize upd H1 e (excO e (XC.of ⟨a.c_NoDeed, a.c_NoMeeting, a.c_NoLetter, a.c_NoWalker, a.c_NotThere, a.c_HasIt, a.c_NoPass, a.c_NoRoom⟩ 0)) = H2 at s2 he2 ⊢
      refine ⟨_, rfl, _, rfl, _, rfl, iteB0 rfl ⟨_, rfl, e, _, _, _, rfl, he2, xc.2.2.2.1, rfl, xc.2.2.2.2 0 (by decide), _, rfl, e, _, _, _, rfl, he2, xc.2.2.2.1, rfl, xc.2.2.2.2 1 (by decide), by show 2 ≤ sizeLine; omega, fun l1 hl1 => ?_⟩⟩
      have s3 := s2.trans (same_new (o := HO.lst [V.bl (0 == 0), V.bl (0 == 1)]) hl1)
      have he3 := same_new (o := HO.lst [V.bl (0 == 0), V.bl (0 == 1)]) hl1 _ _ he2
      have k3 : upd H2 l1 (HO.lst [V.bl (0 == 0), V.bl (0 == 1)]) l1 = some (.lst [V.bl (0 == 0), V.bl (0 == 1)]) := upd_same
      generalize upd H2 l1 (HO.lst [V.bl (0 == 0), V.bl (0 == 1)]) = H3 at s3 he3 k3 ⊢
      refine ⟨_, rfl, _, rfl, e, _, _, _, rfl, he3, xc.2.2.2.1, rfl, xc.2.2.2.2 2 (by decide), _, rfl, e, _, _, _, rfl, he3, xc.2.2.2.1, rfl, xc.2.2.2.2 3 (by decide), by show 2 ≤ sizeLine; omega, fun lx0 hlx0 => ⟨l1, lx0, _, _, rfl, rfl, same_new hlx0 _ _ k3, upd_same, by show 4 ≤ sizeLine; omega, fun l2 hl2 => ?_⟩⟩
      have sX := (same_new (o := HO.lst [V.bl (0 == 2), V.bl (0 == 3)]) hlx0).trans (same_new (o := HO.lst [V.bl (0 == 0), V.bl (0 == 1), V.bl (0 == 2), V.bl (0 == 3)]) hl2)
      have s4 := s3.trans sX
      have he4 := sX _ _ he3
      have k4 : upd (upd H3 lx0 (HO.lst [V.bl (0 == 2), V.bl (0 == 3)])) l2 (HO.lst [V.bl (0 == 0), V.bl (0 == 1), V.bl (0 == 2), V.bl (0 == 3)]) l2 = some (.lst [V.bl (0 == 0), V.bl (0 == 1), V.bl (0 == 2), V.bl (0 == 3)]) := upd_same
      change tSeq _ _ _ _ (upd (upd H3 lx0 (HO.lst [V.bl (0 == 2), V.bl (0 == 3)])) l2 (HO.lst [V.bl (0 == 0), V.bl (0 == 1), V.bl (0 == 2), V.bl (0 == 3)]))
      generalize upd (upd H3 lx0 (HO.lst [V.bl (0 == 2), V.bl (0 == 3)])) l2 (HO.lst [V.bl (0 == 0), V.bl (0 == 1), V.bl (0 == 2), V.bl (0 == 3)]) = H4 at s4 he4 k4 ⊢
      clear sX
      refine ⟨_, rfl, _, rfl, e, _, _, _, rfl, he4, xc.2.2.2.1, rfl, xc.2.2.2.2 4 (by decide), _, rfl, e, _, _, _, rfl, he4, xc.2.2.2.1, rfl, xc.2.2.2.2 5 (by decide), by show 2 ≤ sizeLine; omega, fun lx1 hlx1 => ⟨l2, lx1, _, _, rfl, rfl, same_new hlx1 _ _ k4, upd_same, by show 6 ≤ sizeLine; omega, fun l3 hl3 => ?_⟩⟩
      have sX := (same_new (o := HO.lst [V.bl (0 == 4), V.bl (0 == 5)]) hlx1).trans (same_new (o := HO.lst [V.bl (0 == 0), V.bl (0 == 1), V.bl (0 == 2), V.bl (0 == 3), V.bl (0 == 4), V.bl (0 == 5)]) hl3)
      have s5 := s4.trans sX
      have he5 := sX _ _ he4
      have k5 : upd (upd H4 lx1 (HO.lst [V.bl (0 == 4), V.bl (0 == 5)])) l3 (HO.lst [V.bl (0 == 0), V.bl (0 == 1), V.bl (0 == 2), V.bl (0 == 3), V.bl (0 == 4), V.bl (0 == 5)]) l3 = some (.lst [V.bl (0 == 0), V.bl (0 == 1), V.bl (0 == 2), V.bl (0 == 3), V.bl (0 == 4), V.bl (0 == 5)]) := upd_same
      change tSeq _ _ _ _ (upd (upd H4 lx1 (HO.lst [V.bl (0 == 4), V.bl (0 == 5)])) l3 (HO.lst [V.bl (0 == 0), V.bl (0 == 1), V.bl (0 == 2), V.bl (0 == 3), V.bl (0 == 4), V.bl (0 == 5)]))
      generalize upd (upd H4 lx1 (HO.lst [V.bl (0 == 4), V.bl (0 == 5)])) l3 (HO.lst [V.bl (0 == 0), V.bl (0 == 1), V.bl (0 == 2), V.bl (0 == 3), V.bl (0 == 4), V.bl (0 == 5)]) = H5 at s5 he5 k5 ⊢
      clear sX
      refine ⟨_, rfl, _, rfl, e, _, _, _, rfl, he5, xc.2.2.2.1, rfl, xc.2.2.2.2 6 (by decide), _, rfl, e, _, _, _, rfl, he5, xc.2.2.2.1, rfl, xc.2.2.2.2 7 (by decide), by show 2 ≤ sizeLine; omega, fun lx2 hlx2 => ⟨l3, lx2, _, _, rfl, rfl, same_new hlx2 _ _ k5, upd_same, by show 8 ≤ sizeLine; omega, fun l4 hl4 => ?_⟩⟩
      have sX := (same_new (o := HO.lst [V.bl (0 == 6), V.bl (0 == 7)]) hlx2).trans (same_new (o := HO.lst [V.bl (0 == 0), V.bl (0 == 1), V.bl (0 == 2), V.bl (0 == 3), V.bl (0 == 4), V.bl (0 == 5), V.bl (0 == 6), V.bl (0 == 7)]) hl4)
      have s6 := s5.trans sX
      have he6 := sX _ _ he5
      have k6 : upd (upd H5 lx2 (HO.lst [V.bl (0 == 6), V.bl (0 == 7)])) l4 (HO.lst [V.bl (0 == 0), V.bl (0 == 1), V.bl (0 == 2), V.bl (0 == 3), V.bl (0 == 4), V.bl (0 == 5), V.bl (0 == 6), V.bl (0 == 7)]) l4 = some (.lst [V.bl (0 == 0), V.bl (0 == 1), V.bl (0 == 2), V.bl (0 == 3), V.bl (0 == 4), V.bl (0 == 5), V.bl (0 == 6), V.bl (0 == 7)]) := upd_same
      change tSeq _ _ _ _ (upd (upd H5 lx2 (HO.lst [V.bl (0 == 6), V.bl (0 == 7)])) l4 (HO.lst [V.bl (0 == 0), V.bl (0 == 1), V.bl (0 == 2), V.bl (0 == 3), V.bl (0 == 4), V.bl (0 == 5), V.bl (0 == 6), V.bl (0 == 7)]))
      generalize upd (upd H5 lx2 (HO.lst [V.bl (0 == 6), V.bl (0 == 7)])) l4 (HO.lst [V.bl (0 == 0), V.bl (0 == 1), V.bl (0 == 2), V.bl (0 == 3), V.bl (0 == 4), V.bl (0 == 5), V.bl (0 == 6), V.bl (0 == 7)]) = H6 at s6 he6 k6 ⊢
      clear sX
      refine ⟨_, rfl, by show 9 ≤ _; omega, fun t1 ht1 => ⟨e, _, t1, _, false, rfl, same_new ht1 _ _ he6, xc.2.2.2.1, SqT.of upd_same, rfl, xc.2.2.1, ?_⟩⟩
      have s7 := s6.trans (same_new (o := HO.tup [V.ref a.c_NoBook, V.ref a.c_NoRule, V.ref a.c_TooMany, V.ref a.c_NoDay, V.ref a.c_NoClaim, V.ref a.c_NoText, V.ref a.c_NoRow, V.ref a.c_NoName, V.ref a.c_Twice]) ht1)
      have he7 := same_new (o := HO.tup [V.ref a.c_NoBook, V.ref a.c_NoRule, V.ref a.c_TooMany, V.ref a.c_NoDay, V.ref a.c_NoClaim, V.ref a.c_NoText, V.ref a.c_NoRow, V.ref a.c_NoName, V.ref a.c_Twice]) ht1 _ _ he6
      have k7 := same_new (o := HO.tup [V.ref a.c_NoBook, V.ref a.c_NoRule, V.ref a.c_TooMany, V.ref a.c_NoDay, V.ref a.c_NoClaim, V.ref a.c_NoText, V.ref a.c_NoRow, V.ref a.c_NoName, V.ref a.c_Twice]) ht1 _ _ k6
      generalize upd H6 t1 (HO.tup [V.ref a.c_NoBook, V.ref a.c_NoRule, V.ref a.c_TooMany, V.ref a.c_NoDay, V.ref a.c_NoClaim, V.ref a.c_NoText, V.ref a.c_NoRow, V.ref a.c_NoName, V.ref a.c_Twice]) = H7 at s7 he7 k7 ⊢
      refine ⟨_, rfl, _, rfl, iteB0 rfl ⟨_, rfl, e, _, _, _, rfl, he7, xc.2.2.2.1, rfl, xc.2.1, _, rfl, iteB0 rfl ?_⟩⟩
      refine ⟨_, rfl, .inl ⟨rfl, _, SqL.of k7⟩, 0, l4, kindsL 0, _, fun u => decide (u = V.bl true), by decide, rfl, rfl, SqL.of k7, kinds_eqv, rfl, _, rfl, iteB0 (by rw [kinds_count 0 (by decide : 0 < 8)]; rfl) ?_⟩
      refine ⟨_, rfl, .inl ⟨rfl, _, SqL.of k7⟩, 0, l4, kindsL 0, _, fun u => decide (u = V.bl true), 0, _, by decide, rfl, rfl, SqL.of k7, kinds_eqv, kinds_at 0 (by decide : 0 < 8), rfl, fun m hm w0 hw => (by rw [kinds_no 0 (by decide : 0 < 8) m hm] at hw; cases hw; rfl), (by have := (by decide : 0 < 8); omega), ?_⟩
      exact q _ s7
theorem sc__law_thing_here : FnScope ["_law_purse_here", "_law_book_here", "_law_many", "_law_word", "_law_numbers", "_law_fault", "_law_odd"] ["_law_purse_here", "_law_book_here", "_law_many"] (defScope s__law_thing_here) := ⟨rfl, rfl, rfl, by decide +kernel, rfl, by decide +kernel, by decide +kernel⟩
theorem ok__law_thing_here (T : Tx K mg a) : FnOk P w K mg base CX0 3 a.a__law_thing_here a.d__law_thing_here ["_law_purse_here", "_law_book_here", "_law_many"] (spThing) := by
  have G__law_take := @ok__law_take P w _ _ base _ T
  have G__law_any := @ok__law_any P w _ _ base _ T
  refine T.F__law_thing_here.ok sc__law_thing_here (fun vs H Q E h => ?_) (fun cdv A outer s H vs Q E hr h => ?_)
  · obtain ⟨_, _, _, _, _, _, _, rfl, _⟩ := h; rfl
  · have nd := sc__law_thing_here.nd
    have hu := hr.units
    obtain ⟨p, b, n, rooms, tr, tm, ps, rfl, m0, m1, hb, rn, pn, pu, q⟩ := h
    refine ⟨_, (@bl_out _ _ _ (@bl_c _ _ _ _ _ _ (ps_set (i := 3) nd rfl (by first | exact Or.inl rfl | exact Or.inr rfl) (@pe_ix _ _ _ _ _ _ _ (ix_list' rfl) (@pe_lst _ _ _ _ (@pa_out _ _ _ (@pa_c _ _ _ _ _ pe_str (@pa_c _ _ _ _ _ pe_str (@pa_c _ _ _ _ _ pe_str pa_n rfl) rfl) rfl))) (pe_call G__law_take (hr.mono (by decide)) rfl T.m__law_take T.k__law_take T.i__law_take .nil pass0 (@pa_out _ _ _ (@pa_c _ _ _ _ _ (pv 0) (@pa_c _ _ _ _ _ pe_int pa_n rfl) rfl))) (fun _ _ => rfl))) (@bl_c _ _ _ _ _ _ (ps_set (i := 4) nd rfl (by first | exact Or.inl rfl | exact Or.inr rfl) (@pe_lst _ _ _ _ (@pa_out _ _ _ (@pa_c _ _ _ _ _ (pe_call G__law_any (hr.mono (by decide)) rfl T.m__law_any T.k__law_any T.i__law_any .nil pass0 (@pa_out _ _ _ (@pa_c _ _ _ _ _ (pv 0) (@pa_c _ _ _ _ _ (pe_callB (call_len_seq' rfl) (by rfl) T.b_len PySem.boot_len (@pa_out _ _ _ (@pa_c _ _ _ _ _ (@pe_ix _ _ _ _ _ _ _ (ix_tup' rfl) (pv 1) pe_int (fun _ _ => rfl)) pa_n rfl))) pa_n rfl) rfl))) (@pa_c _ _ _ _ _ (pe_call G__law_any (hr.mono (by decide)) rfl T.m__law_any T.k__law_any T.i__law_any .nil pass0 (@pa_out _ _ _ (@pa_c _ _ _ _ _ (pv 0) (@pa_c _ _ _ _ _ (pv 2) pa_n rfl) rfl))) pa_n rfl) rfl)))) (@bl_c _ _ _ _ _ _ (ps_expr (pe_bm PySem.F.plainAttrs_list PySem.F.slot_list_append PySem.F.type_list_append mt_append (pv 4) (@pa_out _ _ _ (@pa_c _ _ _ _ _ (pe_call G__law_any (hr.mono (by decide)) rfl T.m__law_any T.k__law_any T.i__law_any .nil pass0 (@pa_out _ _ _ (@pa_c _ _ _ _ _ (pv 0) (@pa_c _ _ _ _ _ (pe_callB (call_len_seq' rfl) (by rfl) T.b_len PySem.boot_len (@pa_out _ _ _ (@pa_c _ _ _ _ _ (@pe_ix _ _ _ _ _ _ _ (ix_tup' rfl) (pv 1) pe_int (fun _ _ => rfl)) pa_n rfl))) pa_n rfl) rfl))) pa_n rfl)))) (@bl_c _ _ _ _ _ _ (@ps_if _ _ _ _ _ _ _ _ (@pt_cmpR _ _ _ _ _ _ _ _ op_eq (pv 3) pe_str (nomark _)) (@bl_out _ _ _ (@bl_1 _ _ _ (ps_set (i := 4) nd rfl (by first | exact Or.inl rfl | exact Or.inr rfl) (@pe_slice _ _ _ _ _ _ _ _ _ _ (sl_list' rfl) (pv 4) (@po_some _ _ _ pe_int) po_none)))) pss_nil) (@bl_c _ _ _ _ _ _ (ps_set (i := 5) nd rfl (by first | exact Or.inl rfl | exact Or.inr rfl) (pe_call G__law_take (hr.mono (by decide)) rfl T.m__law_take T.k__law_take T.i__law_take .nil pass0 (@pa_out _ _ _ (@pa_c _ _ _ _ _ (pv 0) (@pa_c _ _ _ _ _ pe_int pa_n rfl) rfl)))) (@bl_c _ _ _ _ _ _ (@ps_if _ _ _ _ _ _ _ _ (@pt_cmpR _ _ _ _ _ _ _ _ op_eq (pv 5) pe_int (nomark _)) (@bl_out _ _ _ (@bl_1 _ _ _ (@ps_set _ _ 3 _ _ _ _ nd rfl (by first | exact Or.inl rfl | exact Or.inr rfl) (@pe_ix _ _ _ _ _ _ _ (ix_list' rfl) (@pe_lst _ _ _ _ (@pa_out _ _ _ (@pa_c _ _ _ _ _ pe_str (@pa_c _ _ _ _ _ pe_str (@pa_c _ _ _ _ _ pe_str (@pa_c _ _ _ _ _ pe_str (@pa_c _ _ _ _ _ pe_str (@pa_c _ _ _ _ _ pe_non (@pa_c _ _ _ _ _ pe_int (@pa_c _ _ _ _ _ pe_bl (@pa_c _ _ _ _ _ (@pe_tup _ _ _ _ _ (@pa_out _ _ _ (@pa_c _ _ _ _ _ pe_str pa_n rfl))) (@pa_c _ _ _ _ _ (@pe_lst _ _ _ _ pa_nil) (@pa_c _ _ _ _ _ pe_dnewK pa_n rfl) rfl) rfl) rfl) rfl) rfl) rfl) rfl) rfl) rfl) rfl))) (pe_call G__law_take (hr.mono (by decide)) rfl T.m__law_take T.k__law_take T.i__law_take .nil pass0 (@pa_out _ _ _ (@pa_c _ _ _ _ _ (pv 0) (@pa_c _ _ _ _ _ pe_int pa_n rfl) rfl))) (fun _ _ => rfl)) rfl (by first | exact .inl rfl | exact .inr rfl | assumption)))) pss_nil) (@bl_c _ _ _ _ _ _ (@ps_if _ _ _ _ _ _ _ _ (@pt_cmpR _ _ _ _ _ _ _ _ op_eq (pv 5) pe_int (nomark _)) (@bl_out _ _ _ (@bl_c _ _ _ _ _ _ (@ps_set _ _ 6 _ _ _ _ nd rfl (by first | exact Or.inl rfl | exact Or.inr rfl) (@pe_ix _ _ _ _ _ _ _ (ix_list' rfl) (@pe_lst _ _ _ _ (@pa_out _ _ _ (@pa_c _ _ _ _ _ pe_bl (@pa_c _ _ _ _ _ pe_bl (@pa_c _ _ _ _ _ pe_non (@pa_c _ _ _ _ _ pe_str (@pa_c _ _ _ _ _ (@pe_tup _ _ _ _ _ (@pa_out _ _ _ (@pa_c _ _ _ _ _ pe_int pa_n rfl))) (@pa_c _ _ _ _ _ (@pe_lst _ _ _ _ (@pa_out _ _ _ (@pa_c _ _ _ _ _ pe_int pa_n rfl))) (@pa_c _ _ _ _ _ (@pe_lst _ _ _ _ pa_nil) (@pa_c _ _ _ _ _ pe_str (@pa_c _ _ _ _ _ pe_dnewK pa_n rfl) rfl) rfl) rfl) rfl) rfl) rfl) rfl) rfl))) (pe_call G__law_take (hr.mono (by decide)) rfl T.m__law_take T.k__law_take T.i__law_take .nil pass0 (@pa_out _ _ _ (@pa_c _ _ _ _ _ (pv 0) (@pa_c _ _ _ _ _ pe_int pa_n rfl) rfl))) (fun _ _ => rfl)) rfl (by first | exact .inl rfl | exact .inr rfl | assumption)) (@bl_1 _ _ _ (ps_asg (pv 6) (pg_sub (pv 4) (pe_call G__law_take (hr.mono (by decide)) rfl T.m__law_take T.k__law_take T.i__law_take .nil pass0 (@pa_out _ _ _ (@pa_c _ _ _ _ _ (pv 0) (@pa_c _ _ _ _ _ (pe_callB (call_len_seq' rfl) (by rfl) T.b_len PySem.boot_len (@pa_out _ _ _ (@pa_c _ _ _ _ _ (pv 4) pa_n rfl))) pa_n rfl) rfl))) set_list))))) pss_nil) (@bl_c _ _ _ _ _ _ (@ps_if _ _ _ _ _ _ _ _ (@pt_cmpR _ _ _ _ _ _ _ _ op_eq (pv 5) pe_int (nomark _)) (@bl_out _ _ _ (@bl_1 _ _ _ (ps_set (i := 4) nd rfl (by first | exact Or.inl rfl | exact Or.inr rfl) (@pe_ix _ _ _ _ _ _ _ (ix_list' rfl) (@pe_lst _ _ _ _ (@pa_out _ _ _ (@pa_c _ _ _ _ _ (@pe_op _ _ _ _ _ _ _ _ op_cat (pv 4) (@pe_lst _ _ _ _ (@pa_out _ _ _ (@pa_c _ _ _ _ _ pe_int pa_n rfl)))) (@pa_c _ _ _ _ _ (@pe_slice _ _ _ _ _ _ _ _ _ _ (sl_list' rfl) (pv 4) (@po_some _ _ _ pe_int) po_none) (@pa_c _ _ _ _ _ (@pe_lst _ _ _ _ pa_nil) pa_n rfl) rfl) rfl))) (pe_call G__law_take (hr.mono (by decide)) rfl T.m__law_take T.k__law_take T.i__law_take .nil pass0 (@pa_out _ _ _ (@pa_c _ _ _ _ _ (pv 0) (@pa_c _ _ _ _ _ pe_int pa_n rfl) rfl))) (fun _ _ => rfl))))) pss_nil) (@bl_c _ _ _ _ _ _ (@ps_if _ _ _ _ _ _ _ _ (@pt_cmpR _ _ _ _ _ _ _ _ op_eq (pv 5) pe_int (nomark _)) (@bl_out _ _ _ (@bl_1 _ _ _ (@ps_ret _ _ _ _ (@pe_op _ _ _ _ _ _ _ _ op_cat (@pe_lst _ _ _ _ (@pa_out _ _ _ (@pa_c _ _ _ _ _ (pv 3) pa_n rfl))) (pv 4))))) pss_nil) (@bl_c _ _ _ _ _ _ (@ps_if _ _ _ _ _ _ _ _ (@pt_cmpR _ _ _ _ _ _ _ _ op_eq (pv 5) pe_int (nomark _)) (@bl_out _ _ _ (@bl_1 _ _ _ (@ps_ret _ _ _ _ (@pe_ix _ _ _ _ _ _ _ (ix_list' rfl) (@pe_lst _ _ _ _ (@pa_out _ _ _ (@pa_c _ _ _ _ _ pe_non (@pa_c _ _ _ _ _ pe_str (@pa_c _ _ _ _ _ pe_int (@pa_c _ _ _ _ _ pe_bl (@pa_c _ _ _ _ _ (@pe_tup _ _ _ _ _ pa_nil) (@pa_c _ _ _ _ _ (@pe_lst _ _ _ _ pa_nil) (@pa_c _ _ _ _ _ pe_dnewK (@pa_c _ _ _ _ _ (@pe_tup _ _ _ _ _ (@pa_out _ _ _ (@pa_c _ _ _ _ _ (pv 3) pa_n rfl))) (@pa_c _ _ _ _ _ (@pe_tup _ _ _ _ _ (@pa_out _ _ _ (@pa_c _ _ _ _ _ (@pe_tup _ _ _ _ _ (@pa_out _ _ _ (@pa_c _ _ _ _ _ (pv 3) pa_n rfl))) pa_n rfl))) (@pa_c _ _ _ _ _ (pe_callTy (call_tuple_of) (by rfl) T.b_tuple PyProof.Rows.boot_tuple (@pa_out _ _ _ (@pa_c _ _ _ _ _ (pv 4) pa_n rfl))) pa_n rfl) rfl) rfl) rfl) rfl) rfl) rfl) rfl) rfl) rfl))) (pe_call G__law_take (hr.mono (by decide)) rfl T.m__law_take T.k__law_take T.i__law_take .nil pass0 (@pa_out _ _ _ (@pa_c _ _ _ _ _ (pv 0) (@pa_c _ _ _ _ _ pe_int pa_n rfl) rfl))) (fun _ _ => rfl))))) pss_nil) (@bl_1 _ _ _ (@ps_ret _ _ _ _ (pe_callTy (call_tuple_of) (by rfl) T.b_tuple PyProof.Rows.boot_tuple (@pa_out _ _ _ (@pa_c _ _ _ _ _ (@pe_op _ _ _ _ _ _ _ _ op_cat (@pe_lst _ _ _ _ (@pa_out _ _ _ (@pa_c _ _ _ _ _ (pv 3) pa_n rfl))) (pv 4)) pa_n rfl)))))))))))))))), ?_⟩
    have line := line9
    have ptI : ∀ {H' : Hp} {x : V} {ns : List Int}, x ∈ ns.map V.int → partV H' x := fun {H' x ns} hx => by
      obtain ⟨i, _, rfl⟩ := List.mem_map.mp hx
      exact .inl rfl
    have hbt : ∀ {H' : Hp}, Go p H H' → BookAt H' b rooms tr tm ps := fun g => hb.tups (g.tups pu)
    refine ⟨by show 3 ≤ _; omega, fun l0 hl0 => ⟨_, rfl, p, 3, rfl, by decide, by decide, pu.new hl0, fun d H1 d0 d1 g1 => ?_⟩⟩
    have G1 : Go p H H1 := ((Go.refl pu).new hl0).trans g1
    obtain ⟨w0, aw, mw⟩ := atI_ex (xs := [V.str (Str.ofString "give"), V.str (Str.ofString "copy"), V.str (Str.ofString "drop")]) d0 (by exact d1)
    refine ⟨l0, _, _, _, rfl, rfl, SqL.of (g1.1 _ _ (pu.ne hl0) upd_same), aw, ?_⟩
    obtain ⟨z, rfl⟩ : ∃ z, w0 = .str z := by
      simp at mw; rcases mw with rfl | rfl | rfl <;> exact ⟨_, rfl⟩
    clear mw aw
    refine ⟨_, rfl, _, rfl, b, _, _, _, rfl, rfl, SqT.of (hbt G1).book, rfl, tm, _, rfl, .inr (SqT.of (hbt G1).meets), p, _, rfl, by omega, by rw [List.length_map]; omega, G1.2, fun z1 H2 g2 => ⟨_, rfl, _, rfl, p, n, rfl, m0, m1, g2.2, fun z2 H3 g3 => ⟨by show 2 ≤ _; omega, fun nl hnl => ?_⟩⟩⟩
    have G2 := (G1.trans g2).trans g3
    have S3 : St43 p H 2 2 (upd H3 nl (HO.lst [V.int z1, V.int z2])) (.str z) nl [.int z1, .int z2] := ⟨G2.new hnl, .inl rfl, upd_same, g3.2.ne hnl, G2.free hnl (g3.2.ne hnl), fun x hx => ptI (ns := [z1, z2]) hx, Nat.le_refl 2, Nat.le_refl 2⟩
    generalize upd H3 nl (HO.lst [V.int z1, V.int z2]) = H4 at S3 ⊢
    refine ⟨_, rfl, .inl ⟨rfl, _, SqL.of S3.lst⟩, _, rfl, _, rfl, b, _, _, _, rfl, rfl, SqT.of (hbt S3.go).book, rfl, tr, _, rfl, .inr (SqT.of (hbt S3.go).rooms), p, _, rfl, by omega, by rw [List.length_map]; omega, S3.go.2, fun z3 H5 g5 => ?_⟩
    have S5 := S3.step g5
    refine ⟨nl, _, _, rfl, rfl, S5.lst, by show 2 < _; omega, ?_⟩
    have S6 : St43 p H 2 3 _ _ _ _ := S5.put (ys := [.int z1, .int z2] ++ [.int z3]) (fun x hx => ptI (ns := [z1, z2, z3]) hx) (by simp) (by simp)
    generalize upd H5 nl (HO.lst ([V.int z1, V.int z2] ++ [V.int z3])) = H6 at S6 ⊢
    clear S3 S5 G2 G1 g2 g3 g5 hnl
    refine ⟨_, rfl, rfl, _, rfl, iteN (fun σ H' => ∃ nl xs, σ = [some (.ref p), some (.ref b), some (.int n), some (.str z), some (.ref nl), none, none] ∧ St43 p H 2 3 H' (.str z) nl xs) ?_ ?_ fun _ => ⟨nl, _, rfl, S6⟩⟩
    rotate_left
    · intro c k
      refine ⟨_, rfl, _, rfl, nl, _, rfl, SqL.of S6.lst, fun l hl => k _ _ ⟨l, [.int z2, .int z3], rfl, S6.new hl (fun x hx => ptI (ns := [z2, z3]) hx) (Nat.le_refl 2) (show 2 ≤ 3 by decide)⟩⟩
    rintro _ H7 ⟨nl, xs, rfl, S7⟩
    refine ⟨_, rfl, p, _, rfl, by decide, by decide, S7.go.2, fun fa H8 f0 f1 g8 => ?_⟩
    have S8 := S7.step g8
    refine ⟨_, rfl, rfl, _, rfl, iteN (fun σ H' => ∃ w0, σ = [some (.ref p), some (.ref b), some (.int n), some w0, some (.ref nl), some (.int fa), none] ∧ St43 p H 2 3 H' w0 nl xs) ?_ ?_ fun _ => ⟨_, rfl, S8⟩⟩
    rotate_left
    · intro c k
      refine ⟨Nat.le_trans (by decide) line, fun t1 ht1 => ⟨Nat.zero_le _, fun t2 ht2 t3 ht3 => ⟨by show 11 ≤ _; omega, fun t4 ht4 => ⟨_, rfl, p, 11, rfl, by decide, by decide, ?_, fun e H9 e0 e1 g9 => ?_⟩⟩⟩⟩
      · exact (((S8.go.2.new ht1).new ht2).new ht3).new ht4
      have s1 := same_new (o := HO.tup [V.str (Str.ofString "give")]) ht1
      have s2 := same_new (o := HO.lst []) ht2
      have s3 := same_new (o := HO.dK []) ht3
      have s4 := same_new (o := HO.lst [V.str (Str.ofString "gives"), V.str (Str.ofString "Give"), V.str (Str.ofString ""), V.str (Str.ofString "cop"), V.str (Str.ofString " drop"), V.non, V.int 0, V.bl true, V.ref t1, V.ref t2, V.ref t3]) ht4
      have S9 := (S8.step ((((Go.refl S8.go.2).new ht1).new ht2).new ht3 |>.new ht4)).step g9
      have k1 := part_go (x := V.ref t1) (.inr ⟨_, rfl, .inr (.inl ⟨_, s4 _ _ (s3 _ _ (s2 _ _ upd_same))⟩)⟩) g9
      have k2 := part_go (x := V.ref t2) (.inr ⟨_, rfl, .inl ⟨_, s4 _ _ (s3 _ _ upd_same)⟩⟩) g9
      have k3 := part_go (x := V.ref t3) (.inr ⟨_, rfl, .inr (.inr ⟨_, s4 _ _ upd_same⟩)⟩) g9
      obtain ⟨w1, aw, mw⟩ := atI_ex (xs := [V.str (Str.ofString "gives"), V.str (Str.ofString "Give"), V.str (Str.ofString ""), V.str (Str.ofString "cop"), V.str (Str.ofString " drop"), V.non, V.int 0, V.bl true, V.ref t1, V.ref t2, V.ref t3]) e0 (by exact e1)
      refine ⟨t4, _, _, _, rfl, rfl, SqL.of (g9.1 _ _ (Purse.ne (((S8.go.2.new ht1).new ht2).new ht3) ht4) upd_same), aw, k _ _ ⟨w1, rfl, S9.word' ?_⟩⟩
      simp only [List.mem_cons, List.not_mem_nil, or_false] at mw
      rcases mw with rfl | rfl | rfl | rfl | rfl | rfl | rfl | rfl | rfl | rfl | rfl <;> first | exact .inl rfl | assumption
    rintro _ H9 ⟨w0, rfl, S9⟩
    refine ⟨_, rfl, rfl, _, rfl, iteN (fun σ H' => ∃ xs v6, σ = [some (.ref p), some (.ref b), some (.int n), some w0, some (.ref nl), some (.int fa), v6] ∧ St43 p H 2 3 H' w0 nl xs) ?_ ?_ fun _ => ⟨xs, _, rfl, S9⟩⟩
    rotate_left
    · intro c k
      refine ⟨Nat.le_trans (by decide) line, fun t1 ht1 => ⟨Nat.le_trans (by decide) line, fun t2 ht2 => ⟨Nat.zero_le _, fun t3 ht3 t5 ht5 => ⟨by show 9 ≤ _; omega, fun t4 ht4 => ⟨_, rfl, p, 9, rfl, by decide, by decide, ?_, fun e H10 e0 e1 g9 => ?_⟩⟩⟩⟩⟩
      · exact ((((S9.go.2.new ht1).new ht2).new ht3).new ht5).new ht4
      have s1 := same_new (o := HO.tup [V.int 0]) ht1
      have s2 := same_new (o := HO.lst [V.int 0]) ht2
      have s3 := same_new (o := HO.lst []) ht3
      have s5 := same_new (o := HO.dK []) ht5
      have s4 := same_new (o := HO.lst [V.bl true, V.bl false, V.non, V.str (Str.ofString "0"), V.ref t1, V.ref t2, V.ref t3, V.str (Str.ofString "drop"), V.ref t5]) ht4
      have S10 := (S9.step (((((Go.refl S9.go.2).new ht1).new ht2).new ht3).new ht5 |>.new ht4)).step g9
      have k1 := part_go (x := V.ref t1) (.inr ⟨_, rfl, .inr (.inl ⟨_, s4 _ _ (s5 _ _ (s3 _ _ (s2 _ _ upd_same)))⟩)⟩) g9
      have k2 := part_go (x := V.ref t2) (.inr ⟨_, rfl, .inl ⟨_, s4 _ _ (s5 _ _ (s3 _ _ upd_same))⟩⟩) g9
      have k3 := part_go (x := V.ref t3) (.inr ⟨_, rfl, .inl ⟨_, s4 _ _ (s5 _ _ upd_same)⟩⟩) g9
      have k5 := part_go (x := V.ref t5) (.inr ⟨_, rfl, .inr (.inr ⟨_, s4 _ _ upd_same⟩)⟩) g9
      obtain ⟨w1, aw, mw⟩ := atI_ex (xs := [V.bl true, V.bl false, V.non, V.str (Str.ofString "0"), V.ref t1, V.ref t2, V.ref t3, V.str (Str.ofString "drop"), V.ref t5]) e0 (by exact e1)
      refine ⟨t4, _, _, _, rfl, rfl, SqL.of (g9.1 _ _ (Purse.ne ((((S9.go.2.new ht1).new ht2).new ht3).new ht5) ht4) upd_same), aw, ?_⟩
      have pw : partV H10 w1 := by
        simp only [List.mem_cons, List.not_mem_nil, or_false] at mw
        rcases mw with rfl | rfl | rfl | rfl | rfl | rfl | rfl | rfl | rfl <;> first | exact .inl rfl | assumption
      clear k1 k2 k3 k5 s1 s2 s3 s4 s5 ht1 ht2 ht3 ht4 ht5 aw mw
      refine ⟨_, rfl, _, rfl, _, rfl, _, rfl, nl, _, rfl, .inl (SqL.of S10.lst), p, _, rfl, by have := S10.lo; omega, by have := S10.hi; omega, S10.go.2, fun at0 H11 a0 a1 g11 => ?_⟩
      have S11 := S10.step g11
      obtain ⟨m, rfl⟩ := Int.eq_ofNat_of_zero_le a0
      have hm : m < xs.length := by omega
      refine ⟨nl, _, _, m, rfl, rfl, S11.lst, ixN_nat hm, k _ _ ⟨xs.set m w1, _, rfl, S11.put (fun y hy => ?_) (by rw [List.length_set]; exact S11.lo) (by rw [List.length_set]; exact S11.hi)⟩⟩
      rcases List.mem_or_eq_of_mem_set hy with h | rfl
      · exact S11.parts y h
      · exact part_go pw g11
    rintro _ H10 ⟨xs, v6, rfl, S10⟩
    refine ⟨_, rfl, rfl, _, rfl, iteN (fun σ H' => ∃ nl xs v6, σ = [some (.ref p), some (.ref b), some (.int n), some w0, some (.ref nl), some (.int fa), v6] ∧ St43 p H 0 4 H' w0 nl xs) ?_ ?_ fun _ => ⟨nl, xs, _, rfl, S10.go, S10.word, S10.lst, S10.np, S10.fr, S10.parts, Nat.zero_le _, Nat.le_succ_of_le S10.hi⟩⟩
    rotate_left
    · intro c k
      refine ⟨_, rfl, Nat.le_trans (by decide) line, fun t1 ht1 => ⟨nl, t1, _, _, rfl, rfl, same_new ht1 _ _ S10.lst, upd_same, by have := S10.hi; show _ + 1 ≤ _; omega, fun t2 ht2 => ⟨_, rfl, _, rfl, nl, _, rfl, SqL.of (same_new ht2 _ _ (same_new ht1 _ _ S10.lst)), fun t3 ht3 => ⟨Nat.zero_le _, fun t5 ht5 => ⟨by show 3 ≤ _; omega, fun t4 ht4 => ⟨_, rfl, p, 3, rfl, by decide, by decide, ?_, fun e H11 e0 e1 g9 => ?_⟩⟩⟩⟩⟩⟩
      · exact ((((S10.go.2.new ht1).new ht2).new ht3).new ht5).new ht4
      have g1 := S10.go.new (o := HO.lst [V.int 0]) ht1
      have g2 := g1.new (o := HO.lst (xs ++ [V.int 0])) ht2
      have g3 := g2.new (o := HO.lst (cutV xs (some 1) none)) ht3
      have g5 := g3.new (o := HO.lst []) ht5
      have s3 := same_new (o := HO.lst (cutV xs (some 1) none)) ht3
      have s5 := same_new (o := HO.lst []) ht5
      have s4 := same_new (o := HO.lst [V.ref t2, V.ref t3, V.ref t5]) ht4
      have S11 := (S10.step (((((Go.refl S10.go.2).new ht1).new ht2).new ht3).new ht5 |>.new ht4)).step g9
      obtain ⟨w1, aw, mw⟩ := atI_ex (xs := [V.ref t2, V.ref t3, V.ref t5]) e0 (by exact e1)
      refine ⟨t4, _, _, _, rfl, rfl, SqL.of (g9.1 _ _ (Purse.ne g5.2 ht4) upd_same), aw, ?_⟩
      have lx := S10.hi
      simp only [List.mem_cons, List.not_mem_nil, or_false] at mw
      rcases mw with rfl | rfl | rfl
      · exact k _ _ ⟨t2, xs ++ [V.int 0], _, rfl, S11.go, S11.word, g9.1 _ _ (Purse.ne g1.2 ht2) (s4 _ _ (s5 _ _ (s3 _ _ upd_same))), Purse.ne g1.2 ht2, g1.free ht2 (Purse.ne g1.2 ht2), (fun y hy => by
          rcases List.mem_append.mp hy with h | h
          · exact S11.parts y h
          · rw [List.mem_singleton] at h; subst h; exact .inl rfl), Nat.zero_le _, by rw [List.length_append]; show _ + 1 ≤ 4; omega⟩
      · exact k _ _ ⟨t3, cutV xs (some 1) none, _, rfl, S11.go, S11.word, g9.1 _ _ (Purse.ne g2.2 ht3) (s4 _ _ (s5 _ _ upd_same)), Purse.ne g2.2 ht3, g2.free ht3 (Purse.ne g2.2 ht3), (fun y hy => S11.parts y (cutV_mem hy)), Nat.zero_le _, Nat.le_trans (cutV_length xs _ _) (by omega)⟩
      · exact k _ _ ⟨t5, [], _, rfl, S11.go, S11.word, g9.1 _ _ (Purse.ne g3.2 ht5) (s4 _ _ upd_same), Purse.ne g3.2 ht5, g3.free ht5 (Purse.ne g3.2 ht5), nofun, Nat.zero_le _, Nat.zero_le _⟩
    rintro _ H11 ⟨nl, xs, v6, rfl, S11⟩
    have lx := S11.hi
    refine ⟨_, rfl, rfl, _, rfl, iteB (fun _ => ?_) fun _ => ?_⟩
    · refine ⟨_, rfl, by show 1 ≤ _; omega, fun t1 ht1 => ⟨_, rfl, t1, nl, _, _, rfl, rfl, upd_same, same_new ht1 _ _ S11.lst, by show 1 + _ ≤ _; omega, fun t2 ht2 => q _ none _ ((S11.go.new ht1).new ht2) (thing_no (.inr ⟨t2, rfl, .inl ⟨_, upd_same⟩⟩) fun a' xs' e e' => ?_)⟩⟩
      cases e
      rw [upd_same] at e'
      cases e'
    refine ⟨_, rfl, rfl, _, rfl, iteB (fun _ => ?_) fun _ => ?_⟩
    rotate_left
    · refine ⟨_, rfl, by show 1 ≤ _; omega, fun t1 ht1 => ⟨_, rfl, t1, nl, _, _, rfl, rfl, upd_same, same_new ht1 _ _ S11.lst, by show 1 + _ ≤ _; omega, fun t2 ht2 => ⟨t2, _, rfl, .inl ⟨SqL.of upd_same, fun t3 ht3 => ?_⟩⟩⟩⟩
      have s1 := same_new (o := HO.lst [w0]) ht1
      have s2 := same_new (o := HO.lst ([w0] ++ xs)) ht2
      have s3 := same_new (o := HO.tup ([w0] ++ xs)) ht3
      obtain ⟨o, ho⟩ := thing_tup (H := upd (upd (upd H11 t1 (HO.lst [w0])) t2 (HO.lst ([w0] ++ xs))) t3 (HO.tup ([w0] ++ xs))) (a := t3) upd_same (by rw [List.length_append]; show 1 + _ ≤ 6; omega) (fun x hx => part_same (by
        rcases List.mem_append.mp hx with h | h
        · rw [List.mem_singleton] at h; subst h; exact S11.word
        · exact S11.parts x h) ((s1.trans s2).trans s3))
      exact q _ o _ (((S11.go.new ht1).new ht2).new ht3) ho
    · refine ⟨Nat.zero_le _, fun t1 ht1 => ⟨Nat.zero_le _, fun t2 ht2 t3 ht3 => ⟨_, rfl, by show 1 ≤ _; omega, fun t4 ht4 => ⟨_, rfl, by show 1 ≤ _; omega, fun t5 ht5 => ⟨by show 1 ≤ _; omega, fun t6 ht6 => ?_⟩⟩⟩⟩⟩
      have s1 := same_new (o := HO.tup []) ht1
      have s2 := same_new (o := HO.lst []) ht2
      have s3 := same_new (o := HO.dK []) ht3
      have s4 := same_new (o := HO.tup [w0]) ht4
      have s5 := same_new (o := HO.tup [w0]) ht5
      have s6 := same_new (o := HO.tup [V.ref t5]) ht6
      have g6 := (((((Go.refl S11.go.2).new (o := HO.tup []) ht1).new (o := HO.lst []) ht2).new (o := HO.dK []) ht3).new (o := HO.tup [w0]) ht4).new (o := HO.tup [w0]) ht5 |>.new (o := HO.tup [V.ref t5]) ht6
      have S12 := S11.step g6
      have k1 := s6 _ _ (s5 _ _ (s4 _ _ (s3 _ _ (s2 _ _ (upd_same (H := H11) (a := t1) (o := HO.tup []))))))
      have k2 := s6 _ _ (s5 _ _ (s4 _ _ (s3 _ _ (upd_same (a := t2) (o := HO.lst [])))))
      have k3 := s6 _ _ (s5 _ _ (s4 _ _ (upd_same (a := t3) (o := HO.dK []))))
      have k4 := s6 _ _ (s5 _ _ (upd_same (a := t4) (o := HO.tup [w0])))
      have k5 := s6 _ _ (upd_same (a := t5) (o := HO.tup [w0]))
      have k6 := upd_same (H := upd (upd (upd (upd (upd H11 t1 (HO.tup [])) t2 (HO.lst [])) t3 (HO.dK [])) t4 (HO.tup [w0])) t5 (HO.tup [w0])) (a := t6) (o := HO.tup [V.ref t5])
      clear s1 s2 s3 s4 s5 s6
      generalize upd (upd (upd (upd (upd (upd H11 t1 (HO.tup [])) t2 (HO.lst [])) t3 (HO.dK [])) t4 (HO.tup [w0])) t5 (HO.tup [w0])) t6 (HO.tup [V.ref t5]) = H12 at g6 S12 k1 k2 k3 k4 k5 k6 ⊢
      refine ⟨_, rfl, nl, _, rfl, .inl ⟨SqL.of S12.lst, fun t7 ht7 => ⟨by show 10 ≤ _; omega, fun t8 ht8 => ⟨_, rfl, p, 10, rfl, by decide, by decide, (S12.go.2.new ht7).new ht8, fun e H13 e0 e1 g9 => ?_⟩⟩⟩⟩
      have s7 := same_new (o := HO.tup xs) ht7
      have s8 := same_new (o := HO.lst [V.non, V.str (Str.ofString "give"), V.int 0, V.bl true, V.ref t1, V.ref t2, V.ref t3, V.ref t4, V.ref t6, V.ref t7]) ht8
      have S13 := (S12.step (((Go.refl S12.go.2).new ht7).new ht8)).step g9
      have tk : Tups (upd (upd H12 t7 (HO.tup xs)) t8 (HO.lst [V.non, V.str (Str.ofString "give"), V.int 0, V.bl true, V.ref t1, V.ref t2, V.ref t3, V.ref t4, V.ref t6, V.ref t7])) H13 := g9.tups ((S12.go.2.new ht7).new ht8)
      obtain ⟨w1, aw, mw⟩ := atI_ex (xs := [V.non, V.str (Str.ofString "give"), V.int 0, V.bl true, V.ref t1, V.ref t2, V.ref t3, V.ref t4, V.ref t6, V.ref t7]) e0 (by exact e1)
      refine ⟨t8, _, _, _, rfl, rfl, SqL.of (g9.1 _ _ (Purse.ne (S12.go.2.new ht7) ht8) upd_same), aw, ?_⟩
      have fl : ∀ {y : V}, flatV y = true → Q y H13 := fun {y} hy => q y none H13 S13.go (thing_no (.inl hy) fun a' xs' e _ => by rw [e] at hy; cases hy)
      have tu : ∀ {a : Addr} {ys : List V}, H13 a = some (.tup ys) → ys.length ≤ 6 → (∀ x ∈ ys, partV H13 x) → Q (.ref a) H13 := fun ha hl hy => by
        obtain ⟨o, ho⟩ := thing_tup ha hl hy
        exact q _ o _ S13.go ho
      have k1 := tk _ _ (s8 _ _ (s7 _ _ k1))
      have k4 := tk _ _ (s8 _ _ (s7 _ _ k4))
      have k5 := tk _ _ (s8 _ _ (s7 _ _ k5))
      have k6 := tk _ _ (s8 _ _ (s7 _ _ k6))
      have k7 := tk _ _ (s8 _ _ (upd_same (a := t7) (o := HO.tup xs)))
      have np : ∀ {a : Addr} {o : HO}, H12 a = some o → (∀ i j k, o ≠ .lst [.int i, .int j, .int k]) → H13 a = some o := fun {a o} ha ho => g9.1 _ _ (fun z => by
        obtain ⟨i, j, k, e⟩ := S12.go.2
        rw [z, e] at ha
        cases ha
        exact ho _ _ _ rfl) (s8 _ _ (s7 _ _ ha))
      have k2 := np k2 nofun
      have k3 := np k3 nofun
      simp only [List.mem_cons, List.not_mem_nil, or_false] at mw
      rcases mw with rfl | rfl | rfl | rfl | rfl | rfl | rfl | rfl | rfl | rfl
      · exact fl rfl
      · exact fl rfl
      · exact fl rfl
      · exact fl rfl
      · exact tu k1 (Nat.zero_le _) nofun
      · exact q _ none _ S13.go (thing_no (.inr ⟨_, rfl, .inl ⟨_, k2⟩⟩) fun a' xs' e e' => by cases e; rw [k2] at e'; cases e')
      · exact q _ none _ S13.go (thing_no (.inr ⟨_, rfl, .inr (.inr ⟨_, k3⟩)⟩) fun a' xs' e e' => by cases e; rw [k3] at e'; cases e')
      · exact tu k4 (by show 1 ≤ 6; decide) fun x hx => by rw [List.mem_singleton] at hx; subst hx; exact S13.word
      · exact tu k6 (by show 1 ≤ 6; decide) fun x hx => by rw [List.mem_singleton] at hx; subst hx; exact .inr ⟨_, rfl, .inr (.inl ⟨_, k5⟩)⟩
      · exact tu k7 (by omega) S13.parts
theorem sc__law_is_deed : FnScope ["_law_thing_here_here", "_law_due", "_law_word", "_law_parts"] ["_law_thing_here_here"] (defScope s__law_is_deed) := ⟨rfl, rfl, rfl, by decide +kernel, rfl, by decide +kernel, by decide +kernel⟩
theorem ok__law_is_deed (T : Tx K mg a) : FnOk P w K mg base CX0 2 a.a__law_is_deed a.d__law_is_deed ["_law_thing_here_here"] (spIsDeed) := by
  have G__law_whole := @ok__law_whole P w _ _ base _ T
  refine T.F__law_is_deed.ok sc__law_is_deed (fun vs H Q E h => ?_) (fun cdv A outer s H vs Q E hr h => ?_)
  · obtain ⟨_, _, rfl, _⟩ := h; rfl
  · have nd := sc__law_is_deed.nd
    have hu := hr.units
    obtain ⟨y, o, rfl, h, q⟩ := h
    refine ⟨_, (@bl_out _ _ _ (@bl_c _ _ _ _ _ _ (@ps_if _ _ _ _ _ _ _ _ (@PW.pt _ _ _ (@pw_or _ _ _ _ _ _ _ (@pt_not _ _ _ _ (pt_val (pe_callB (call_isinst) (by rfl) T.b_isinstance PyProof.Rows.boot_isinstance (@pa_out _ _ _ (@pa_c _ _ _ _ _ (pv 0) (@pa_c _ _ _ _ _ (pe_bltn (v := V.ty "tuple") rfl T.b_tuple PyProof.Rows.boot_tuple rfl) pa_n rfl) rfl))))) (@pw_or1 _ _ _ _ (@pt_cmpR _ _ _ _ _ _ _ _ op_eq (pe_callB (call_len_seq' rfl) (by rfl) T.b_len PySem.boot_len (@pa_out _ _ _ (@pa_c _ _ _ _ _ (pv 0) pa_n rfl))) pe_int (nomark _))))) (@bl_out _ _ _ (@bl_1 _ _ _ (@ps_ret _ _ _ _ pe_bl))) pss_nil) (@bl_c _ _ _ _ _ _ (ps_set (i := 1) nd rfl (by first | exact Or.inl rfl | exact Or.inr rfl) pe_int) (@bl_c _ _ _ _ _ _ (ps_for PassesOwn.never rfl (@pi_list' _ _ _ _ _ rfl (@pe_lst _ _ _ _ (@pa_out _ _ _ (@pa_c _ _ _ _ _ (@pe_tup _ _ _ _ _ (@pa_out _ _ _ (@pa_c _ _ _ _ _ pe_str (@pa_c _ _ _ _ _ pe_int pa_n rfl) rfl))) (@pa_c _ _ _ _ _ (@pe_tup _ _ _ _ _ (@pa_out _ _ _ (@pa_c _ _ _ _ _ pe_str (@pa_c _ _ _ _ _ pe_int pa_n rfl) rfl))) (@pa_c _ _ _ _ _ (@pe_tup _ _ _ _ _ (@pa_out _ _ _ (@pa_c _ _ _ _ _ pe_str (@pa_c _ _ _ _ _ pe_int pa_n rfl) rfl))) pa_n rfl) rfl) rfl)))) (pg_tup' (n := 2) rfl rfl (pgs_cons (pg_name (i := 2) nd rfl (by first | exact Or.inl rfl | exact Or.inr rfl)) (pgs_cons (pg_name (i := 3) nd rfl (by first | exact Or.inl rfl | exact Or.inr rfl)) pgs_nil))) (@bl_out _ _ _ (@bl_1 _ _ _ (@ps_if _ _ _ _ _ _ _ _ (@pt_cmpR _ _ _ _ _ _ _ _ (op_eqW hu) (@pe_ix _ _ _ _ _ _ _ (ix_tup' rfl) (pv 0) pe_int (fun _ _ => rfl)) (pv 2) (nomark _)) (@bl_out _ _ _ (@bl_1 _ _ _ (ps_set (i := 1) nd rfl (by first | exact Or.inl rfl | exact Or.inr rfl) (pv 3)))) pss_nil)))) (@bl_1 _ _ _ (@ps_ret _ _ _ _ (@pe_and _ _ _ _ _ _ _ (@pe_cmpR _ _ _ _ _ _ _ _ op_eq (pe_callB (call_len_seq' rfl) (by rfl) T.b_len PySem.boot_len (@pa_out _ _ _ (@pa_c _ _ _ _ _ (pv 0) pa_n rfl))) (pv 1) (nomark _)) (@pe_one _ _ _ _ _ (pe_callB (call_all rfl rfl) (by rfl) T.b_all PyProof.Rows.boot_all (@pa_out _ _ _ (@pa_c _ _ _ _ _ (pe_comp (own := ["_law_part"]) (caps := []) rfl (show CompScope ["_law_part"] [] ["_law_thing_here_here", "_law_due", "_law_word", "_law_parts"] (defScope s__law_is_deed) _ from ⟨rfl, by decide +kernel, by decide +kernel, by decide +kernel, by decide +kernel⟩) (@pi_tup'' _ _ _ _ _ rfl (@pe_slice _ _ _ _ _ _ _ _ _ _ (sl_tup' rfl) (pv 0) (@po_some _ _ _ pe_int) po_none)) (fun _ _ _ _ => (pg_name (i := 0) (show List.Nodup (["_law_part"] : List Str) from by decide +kernel) rfl (by first | exact Or.inl rfl | exact Or.inr rfl))) (fun _ _ _ _ => pts_nil) (fun _ _ _ _ => (pe_call G__law_whole (hr.mono (by decide)) rfl T.m__law_whole T.k__law_whole T.i__law_whole .nil pass0 (@pa_out _ _ _ (@pa_c _ _ _ _ _ (pv 0) pa_n rfl))))) pa_n rfl))))))))))), ?_⟩
    have line := line9
    have pts : partV H y ∧ ∀ p xs, y = .ref p → H p = some (.tup xs) → xs.length ≤ 6 ∧ (∀ x ∈ xs, partV H x) ∧ (xs ≠ [] → dueD xs = o.isSome) ∧ (xs = [] → o.isSome = false) := by
      cases o with
      | none =>
        have hn : NoD H y := h
        refine ⟨hn.1, fun p xs ey e => ?_⟩
        obtain ⟨l6, ps, np, nd⟩ := hn.2 p xs ey e
        exact ⟨l6, ps, fun ne => due_no ne np nd, fun _ => rfl⟩
      | some d =>
        obtain ⟨p, rfl, hp⟩ := (show DeedAt H y d from h)
        refine ⟨.inr ⟨p, rfl, .inr (.inl ⟨_, hp⟩)⟩, fun p' xs ey e => ?_⟩
        cases ey
        rw [hp] at e
        cases e
        refine ⟨by cases d <;> simp [Dd.vs], fun x hx => .inl ?_, fun _ => due_yes d, fun z => by cases d <;> cases z⟩
        cases d <;> simp [Dd.vs] at hx <;> rcases hx with rfl | rfl | rfl | rfl <;> rfl
    rcases part_tup pts.1 with ⟨p, xs, rfl, hp⟩ | ⟨t, ht, hs⟩
    · obtain ⟨l6, hps, hy, hz⟩ := pts.2 p xs rfl hp
      refine ⟨_, rfl, _, "tuple", "tuple", rfl, tyS_tup hp, .inr (.inr (.inr rfl)), _, rfl, iteB0 rfl ⟨_, rfl, p, _, rfl, .inr (SqT.of hp), rfl, _, rfl, iteB (fun c => ?_) (fun c => ?_)⟩⟩
      · have e0 : xs = [] := List.length_eq_zero_iff.mp (of_len (k := 0) c)
        have := q H (Same.refl _)
        rw [hz e0] at this
        exact this
      · refine ⟨by show 2 ≤ _; omega, fun t1 ht1 => ⟨by show 2 ≤ _; omega, fun t2 ht2 => ⟨by show 2 ≤ _; omega, fun t3 ht3 => ⟨by show 3 ≤ sizeLine; omega, fun l hl => ?_⟩⟩⟩⟩
        obtain ⟨x0, rest, rfl⟩ : ∃ x0 rest, xs = x0 :: rest := by
          cases xs with
          | nil => cases c
          | cons x0 rest => exact ⟨x0, rest, rfl⟩
        let rows : List (Addr × (Str × Int)) := [(t1, Str.ofString "give", 4), (t2, Str.ofString "copy", 4), (t3, Str.ofString "drop", 3)]
        have sa := same_new (o := HO.tup [V.str (Str.ofString "give"), V.int 4]) ht1
        have sb := same_new (o := HO.tup [V.str (Str.ofString "copy"), V.int 4]) ht2
        have sc := same_new (o := HO.tup [V.str (Str.ofString "drop"), V.int 3]) ht3
        have sd := same_new (o := HO.lst [V.ref t1, V.ref t2, V.ref t3]) hl
        have k1 := sd _ _ (sc _ _ (sb _ _ (upd_same (H := H) (a := t1) (o := HO.tup [V.str (Str.ofString "give"), V.int 4]))))
        have k2 := sd _ _ (sc _ _ (upd_same (H := upd H t1 (HO.tup [V.str (Str.ofString "give"), V.int 4])) (a := t2) (o := HO.tup [V.str (Str.ofString "copy"), V.int 4])))
        have k3 := sd _ _ (upd_same (H := upd (upd H t1 (HO.tup [V.str (Str.ofString "give"), V.int 4])) t2 (HO.tup [V.str (Str.ofString "copy"), V.int 4])) (a := t3) (o := HO.tup [V.str (Str.ofString "drop"), V.int 3]))
        have kl : upd (upd (upd (upd H t1 (HO.tup [V.str (Str.ofString "give"), V.int 4])) t2 (HO.tup [V.str (Str.ofString "copy"), V.int 4])) t3 (HO.tup [V.str (Str.ofString "drop"), V.int 3])) l (HO.lst [V.ref t1, V.ref t2, V.ref t3]) l = some (.lst (rows.map fun r => V.ref r.1)) := upd_same
        have s4 := ((sa.trans sb).trans sc).trans sd
        refine ⟨l, rfl, ⟨_, SqL.of kl⟩, ?_⟩
        have kr : ∀ r ∈ rows, upd (upd (upd (upd H t1 (HO.tup [V.str (Str.ofString "give"), V.int 4])) t2 (HO.tup [V.str (Str.ofString "copy"), V.int 4])) t3 (HO.tup [V.str (Str.ofString "drop"), V.int 3])) l (HO.lst [V.ref t1, V.ref t2, V.ref t3]) r.1 = some (.tup [V.str r.2.1, V.int r.2.2]) := by
          intro r hr
          rcases List.mem_cons.mp hr with rfl | hr
          · exact k1
          rcases List.mem_cons.mp hr with rfl | hr
          · exact k2
          rcases List.mem_cons.mp hr with rfl | hr
          · exact k3
          cases hr
        clear k1 k2 k3 sa sb sc sd
        generalize upd (upd (upd (upd H t1 (HO.tup [V.str (Str.ofString "give"), V.int 4])) t2 (HO.tup [V.str (Str.ofString "copy"), V.int 4])) t3 (HO.tup [V.str (Str.ofString "drop"), V.int 3])) l (HO.lst [V.ref t1, V.ref t2, V.ref t3]) = H4 at s4 kl kr ⊢
        have hp4 := s4 _ _ hp
        have h0 : partV H4 x0 := part_same (hps x0 List.mem_cons_self) s4
        refine for_list (K := K) (a := l) (xs := rows.map fun r => V.ref r.1) (fun i σ H5 => (∃ v2 v3, σ = [some (.ref p), some (.int (dueW x0 ((rows.take i).map (·.2)))), v2, v3]) ∧ H5 = H4) ⟨⟨_, _, rfl⟩, rfl⟩ ?_ ?_ ?_
        · rintro i σ H5 _ ⟨_, rfl⟩
          exact SqL.of kl
        · rintro i x σ H5 hx ⟨⟨v2, v3, rfl⟩, rfl⟩
          obtain ⟨r, hr, rfl⟩ := map_get hx
          have e : dueW x0 ((rows.take (i + 1)).map (·.2)) = if eqV (.str r.2.1) x0 = true then r.2.2 else dueW x0 ((rows.take i).map (·.2)) := by
            rw [take_snoc hr, List.map_append]; exact dueW_snoc
          refine ⟨r.1, _, rfl, SqT.of (kr r (List.mem_of_getElem? hr)), rfl, _, _, rfl, _, _, rfl, rfl, ?_⟩
          refine ⟨_, rfl, p, _, _, _, rfl, rfl, SqT.of hp4, (show atI (x0 :: rest) ((0 : Nat) : Int) = some x0 from atI_nat rfl), _, rfl, _, rfl, h0, _, rfl, iteB (fun c => ?_) (fun c => ?_)⟩
          · exact ⟨_, rfl, ⟨_, _, by rw [e, if_pos c]; rfl⟩, rfl⟩
          · exact ⟨⟨_, _, by rw [e, if_neg (by rw [c]; exact Bool.false_ne_true)]; rfl⟩, rfl⟩
        · rintro σ H5 ⟨⟨v2, v3, rfl⟩, rfl⟩
          have hd := hy (List.cons_ne_nil _ _)
          refine ⟨_, rfl, p, _, rfl, .inr (SqT.of hp4), _, rfl, rfl, _, rfl, iteB (fun c => ?_) (fun c => ?_)⟩
          · refine ⟨_, rfl, _, rfl, p, _, rfl, SqT.of hp4, (fun z => by have := z.1; rw [six1 (by simp)] at this; cases this), fun t4 ht4 => ?_⟩
            rw [cut1]
            have s5 := s4.trans (same_new (o := HO.tup rest) ht4)
            have k5 : upd H5 t4 (HO.tup rest) t4 = some (.tup rest) := upd_same
            generalize upd H5 t4 (HO.tup rest) = H6 at s5 k5 ⊢
            refine ⟨t4, rfl, ⟨_, SqT.of k5⟩, ?_⟩
            refine comp_tup (K := K) (a := t4) (xs := rest) (fun i τ acc H7 => (∃ t0, τ = [t0]) ∧ acc = ((rest.take i).map isI).map V.bl ∧ H7 = H6) ⟨⟨_, rfl⟩, rfl, rfl⟩ (by have : rest.length + 1 ≤ 6 := l6; omega) ?_ ?_ ?_
            · rintro i τ acc H7 ⟨_, rfl, rfl⟩
              exact ⟨by simp; omega, SqT.of k5⟩
            · rintro i x τ acc H7 C hx ⟨⟨t0, rfl⟩, rfl, rfl⟩ hC
              obtain ⟨t, ht, ei⟩ := part_ty (part_same (hps x (List.mem_cons_of_mem _ (List.mem_of_getElem? hx))) s5)
              exact ⟨_, rfl, x, t, rfl, ht, hC _ _ _ ⟨⟨_, rfl⟩, by rw [take_snoc hx, List.map_append, List.map_append, ei]; rfl, rfl⟩⟩
            · rintro τ acc H7 ⟨_, rfl, rfl⟩ l2 hl2
              refine ⟨l2, _, rfl, SqL.of upd_same, ?_⟩
              have : ((rest.take rest.length).map isI).all id = rest.all isI := by rw [List.take_length, List.all_map]; rfl
              rw [this]
              have e2 : dueD (x0 :: rest) = rest.all isI := by
                unfold dueD; rw [show decide (V.int ((x0 :: rest).length : Int) = V.int (dueW ((x0 :: rest).headD .non) dws)) = true from c]; rfl
              rw [← e2, hd]
              exact q _ (s5.trans (same_new hl2))
          · have := q _ s4
            rw [← hd, show dueD (x0 :: rest) = false from by unfold dueD; rw [show decide (V.int ((x0 :: rest).length : Int) = V.int (dueW ((x0 :: rest).headD .non) dws)) = false from c]; rfl] at this
            exact this
    · have on : o.isSome = false := by
        cases o with
        | none => rfl
        | some d =>
          obtain ⟨p, rfl, hp⟩ := (show DeedAt H y d from h)
          rw [tyS_tup hp] at ht
          cases ht
          cases hs
      have := q H (Same.refl _)
      rw [on] at this
      exact ⟨_, rfl, _, t, "tuple", rfl, ht, .inr (.inr (.inr rfl)), _, rfl, iteB1 (by show (!isSub t "tuple") = true; rw [hs]; rfl) this⟩
theorem sc_law : FnScope ["_law_script_here", "_law_book_here", "_law_letters_here", "_law_trip", "_law_done", "_law_k", "_law_thing_here_here", "_law_code"] ["_law_script_here"] (defScope s_law) := ⟨rfl, rfl, rfl, by decide +kernel, rfl, by decide +kernel, by decide +kernel⟩
theorem ok_law (T : Tx K mg a) : FnOk P w K mg base CX0 7 a.a_law a.d_law ["_law_script_here"] (spLaw K) := by
  have G__law_purse := @ok__law_purse P w _ _ base _ T
  have G__law_book := @ok__law_book P w _ _ base _ T
  have G__law_letters := @ok__law_letters P w _ _ base _ T
  have G_Trip___init__ := @ok_Trip___init__ P w _ _ base _ T
  have G_Trip_done := @ok_Trip_done P w _ _ base _ T
  have G__law_does := @ok__law_does P w _ _ base _ T
  have G__law_thing_here := @ok__law_thing_here P w _ _ base _ T
  have G__law_is_deed := @ok__law_is_deed P w _ _ base _ T
  refine T.F_law.ok sc_law (fun vs H Q E h => ?_) (fun cdv A outer s H vs Q E hr h => ?_)
  · obtain ⟨_, _, rfl, _⟩ := h; rfl
  · have nd := sc_law.nd
    have hu := hr.units
    obtain ⟨sa, ns, rfl, hS, hn, q⟩ := h
    refine ⟨_, (@bl_out _ _ _ (@bl_c _ _ _ _ _ _ (ps_set (i := 1) nd rfl (by first | exact Or.inl rfl | exact Or.inr rfl) (pe_call G__law_book (hr.mono (by decide)) rfl T.m__law_book T.k__law_book T.i__law_book .nil pass0 (@pa_out _ _ _ (@pa_c _ _ _ _ _ (pe_call G__law_purse (hr.mono (by decide)) rfl T.m__law_purse T.k__law_purse T.i__law_purse .nil pass0 (@pa_out _ _ _ (@pa_c _ _ _ _ _ (pv 0) (@pa_c _ _ _ _ _ pe_int pa_n rfl) rfl))) (@pa_c _ _ _ _ _ pe_int (@pa_c _ _ _ _ _ pe_int pa_n rfl) rfl) rfl)))) (@bl_c _ _ _ _ _ _ (ps_set (i := 2) nd rfl (by first | exact Or.inl rfl | exact Or.inr rfl) (pe_call G__law_letters (hr.mono (by decide)) rfl T.m__law_letters T.k__law_letters T.i__law_letters .nil pass0 (@pa_out _ _ _ (@pa_c _ _ _ _ _ (pe_call G__law_purse (hr.mono (by decide)) rfl T.m__law_purse T.k__law_purse T.i__law_purse .nil pass0 (@pa_out _ _ _ (@pa_c _ _ _ _ _ (pv 0) (@pa_c _ _ _ _ _ pe_int pa_n rfl) rfl))) (@pa_c _ _ _ _ _ (pv 1) pa_n rfl) rfl)))) (@bl_c _ _ _ _ _ _ (ps_set (i := 3) nd rfl (by first | exact Or.inl rfl | exact Or.inr rfl) (pe_make T.Y_Trip G_Trip___init__ (hr.mono (by decide)) rfl T.m_Trip T.i_Trip___init__ .nil pass0 (@pa_out _ _ _ (@pa_c _ _ _ _ _ (pv 1) (@pa_c _ _ _ _ _ (pe_callTy (call_list_of' rfl) (by rfl) T.b_list PyProof.Rows.boot_list (@pa_out _ _ _ (@pa_c _ _ _ _ _ (pv 2) pa_n rfl))) pa_n rfl) rfl)))) (@bl_c _ _ _ _ _ _ (ps_set (i := 4) nd rfl (by first | exact Or.inl rfl | exact Or.inr rfl) (@pe_lst _ _ _ _ pa_nil)) (@bl_c _ _ _ _ _ _ (ps_for PassesOwn.never rfl (pi_range2 rfl T.b_range (@pa_out _ _ _ (@pa_c _ _ _ _ _ pe_int (@pa_c _ _ _ _ _ (pe_callB (call_max2 rfl) (by rfl) T.b_max PyProof.Rows.boot_max (@pa_out _ _ _ (@pa_c _ _ _ _ _ pe_int (@pa_c _ _ _ _ _ (pe_callB (call_min2 rfl) (by rfl) T.b_min PyProof.Rows.boot_min (@pa_out _ _ _ (@pa_c _ _ _ _ _ (pe_callB (call_len_seq' rfl) (by rfl) T.b_len PySem.boot_len (@pa_out _ _ _ (@pa_c _ _ _ _ _ (pv 0) pa_n rfl))) (@pa_c _ _ _ _ _ pe_int pa_n rfl) rfl))) pa_n rfl) rfl))) pa_n rfl) rfl))) (pg_name (i := 5) nd rfl (by first | exact Or.inl rfl | exact Or.inr rfl)) (@bl_out _ _ _ (@bl_c _ _ _ _ _ _ (ps_set (i := 6) nd rfl (by first | exact Or.inl rfl | exact Or.inr rfl) (pe_call G__law_thing_here (hr.mono (by decide)) rfl T.m__law_thing_here T.k__law_thing_here T.i__law_thing_here .nil pass0 (@pa_out _ _ _ (@pa_c _ _ _ _ _ (pe_call G__law_purse (hr.mono (by decide)) rfl T.m__law_purse T.k__law_purse T.i__law_purse .nil pass0 (@pa_out _ _ _ (@pa_c _ _ _ _ _ (pv 0) (@pa_c _ _ _ _ _ (pv 5) pa_n rfl) rfl))) (@pa_c _ _ _ _ _ (pv 1) (@pa_c _ _ _ _ _ (pe_callB (call_len_seq' rfl) (by rfl) T.b_len PySem.boot_len (@pa_out _ _ _ (@pa_c _ _ _ _ _ (pv 2) pa_n rfl))) pa_n rfl) rfl) rfl)))) (@bl_c _ _ _ _ _ _ (ps_set (i := 7) nd rfl (by first | exact Or.inl rfl | exact Or.inr rfl) (pe_call G__law_does (hr.mono (by decide)) rfl T.m__law_does T.k__law_does T.i__law_does .nil pass0 (@pa_out _ _ _ (@pa_c _ _ _ _ _ (pv 3) (@pa_c _ _ _ _ _ (pv 6) pa_n rfl) rfl)))) (@bl_c _ _ _ _ _ _ (@ps_if _ _ _ _ _ _ _ _ (@PW.pt _ _ _ (@pw_or _ _ _ _ _ _ _ (@pt_cmpR _ _ _ _ _ _ _ _ op_eq (pv 7) pe_int (nomark _)) (@pw_or1 _ _ _ _ (@pt_cmpR _ _ _ _ _ _ _ _ op_eq (@pe_cmpR _ _ _ _ _ _ _ _ op_eq (pv 7) pe_int (nomark _)) (pe_call G__law_is_deed (hr.mono (by decide)) rfl T.m__law_is_deed T.k__law_is_deed T.i__law_is_deed .nil pass0 (@pa_out _ _ _ (@pa_c _ _ _ _ _ (pv 6) pa_n rfl))) (nomark _))))) (@bl_out _ _ _ (@bl_1 _ _ _ (@ps_ret _ _ _ _ pe_bl))) pss_nil) (@bl_c _ _ _ _ _ _ (@ps_if _ _ _ _ _ _ _ _ (@pt_cmpR _ _ _ _ _ _ _ _ op_eq (pv 7) pe_int (nomark _)) (@bl_out _ _ _ (@bl_1 _ _ _ (ps_expr (pe_bm PySem.F.plainAttrs_list PySem.F.slot_list_append PySem.F.type_list_append mt_append (pv 4) (@pa_out _ _ _ (@pa_c _ _ _ _ _ (pv 6) pa_n rfl)))))) pss_nil) (@bl_1 _ _ _ (@ps_if _ _ _ _ _ _ _ _ (@PW.pt _ _ _ (@pw_or _ _ _ _ _ _ _ (@pt_not _ _ _ _ (pt_val (pe_callB (call_isinst) (by rfl) T.b_isinstance PyProof.Rows.boot_isinstance (@pa_out _ _ _ (@pa_c _ _ _ _ _ (pe_meth0 (pv 3) T.L_Trip T.M_Trip_done G_Trip_done (hr.mono (by decide)) T.i_Trip_done .nil pass0) (@pa_c _ _ _ _ _ (pe_bltn (v := V.ty "list") rfl T.b_list PyProof.Rows.boot_list rfl) pa_n rfl) rfl))))) (@pw_or1 _ _ _ _ (@pt_cmpR _ _ _ _ _ _ _ _ (op_neE hu) (pe_meth0 (pv 3) T.L_Trip T.M_Trip_done G_Trip_done (hr.mono (by decide)) T.i_Trip_done .nil pass0) (pv 4) (nomark _))))) (@bl_out _ _ _ (@bl_1 _ _ _ (@ps_ret _ _ _ _ pe_bl))) pss_nil)))))))) (@bl_1 _ _ _ (@ps_ret _ _ _ _ pe_bl)))))))), ?_⟩
    have line := line9
    refine ⟨_, rfl, sa, ns, 0, rfl, hS, by decide, fun p H1 hp1 pu1 s1 => ?_⟩
    refine ⟨p, 12, 20, rfl, by decide, by decide, by decide, pu1, fun b rooms tr tm ps H2 g2 hb rm1 rm2 rm9 gd _ => ?_⟩
    have sA : Same H H2 := But.same hp1 s1 g2.1
    refine ⟨_, rfl, sa, ns, 1, rfl, sA.seq hS, by omega, fun p1 H3 hp3 pu3 s3 => ?_⟩
    refine ⟨_, rfl, p1, b, rooms, tr, tm, ps, rfl, hb.same s3, rm1, by omega, gd, pu3, fun ll ls H4 g4 hll hrw n41 nll => ?_⟩
    have sH4 : Same H H4 := sA.trans (But.same hp3 s3 g4.1)
    have hb4 := hb.same (But.same hp3 s3 g4.1)
    refine ⟨_, rfl, _, rfl, ll, _, rfl, .inl (SqL.of hll), fun lh hlh x dx nx ndx nex => ?_⟩
    have s5 := same_new (o := HO.lst (ls.map fun x => V.ref x.1)) hlh
    have kh : upd H4 lh (HO.lst (ls.map fun x => V.ref x.1)) lh = some (.lst (ls.map fun x => V.ref x.1)) := upd_same
    generalize upd H4 lh (HO.lst (ls.map fun x => V.ref x.1)) = H5 at s5 kh nx ndx ⊢
    have s6 : Same H5 (upd (upd H5 dx (.own x)) x (.ins a.c_Trip dx [])) := same_two nx ndx nex
    refine ⟨x, dx, b, lh, ls, rooms, tr, tm, ps, rfl, upd_same, (hb4.same s5).same s6, gd, by omega, s6 _ _ kh, fun l hl => s6 _ _ (s5 _ _ (hrw l hl)), n41, fun t H7 b7 kt nt => ⟨rfl, ?_⟩⟩
    have s7 : Same H5 H7 := But.same nx (same_new ndx) (But.trans But.set b7)
    have ft : ∀ c, t.own c ∨ c = t.lL ∨ c = t.lH → H4 c = none := fun c hc => by
      rcases nt.fr c hc with z | z
      · rw [z]; exact s5.free nx
      · exact (s5.trans s6).free z
    have s47 := s5.trans s7
    obtain rfl := nt.ex
    clear b7 s6 s7 kh s5
    refine ⟨by show 0 ≤ sizeLine; omega, fun dl hdl => ?_⟩
    have s8 := same_new (o := HO.lst []) hdl
    have kd : upd H7 dl (HO.lst []) dl = some (.lst []) := upd_same
    have nown : ∀ c, t.own c ∨ c = t.lL ∨ c = t.lH → c ≠ dl := fun c hc z => by
      obtain ⟨o, ho, _⟩ := kt.there hc
      rw [z, hdl] at ho; cases ho
    generalize upd H7 dl (HO.lst []) = H8 at s8 kd ⊢
    have hdl4 := s47.free hdl
    have s48 := s47.trans s8
    have kt8 := kt.same s8
    have hS4 := sH4.seq hS
    have etb := nt.eb
    have etd := nt.ed
    clear nt s8 s47 kt hdl
    refine ⟨_, rfl, sa, _, rfl, .inl (s48.seq hS4), _, _, rfl, _, _, rfl, _, _, rfl, ⟨by decide, by decide, ?_, ?_⟩, ?_⟩
    · split <;> split <;> omega
    · rw [List.length_map]; split <;> split <;> omega
    refine for_range (lo := 2) (fun i σ H5 => ∃ t, (∃ v5 v6 v7, σ = [some (.ref sa), some (.ref b), some (.ref ll), some (.ref t.x), some (.ref dl), v5, v6, v7]) ∧ TrOk a.c_Trip H5 t rooms tr tm ps (1 + i) ∧ Same H4 H5 ∧ (∀ c, t.own c → H4 c = none) ∧ H5 dl = some (.lst t.ds) ∧ (∀ c, t.own c ∨ c = t.lL ∨ c = t.lH → c ≠ dl) ∧ (∀ x ∈ t.ds, ∃ a, x = V.ref a)) ⟨t, ⟨_, _, _, rfl⟩, kt8, s48, (fun c hc => ft c (.inl hc)), (by rw [etd]; exact kd), nown, (fun x hx => by rw [etd] at hx; cases hx)⟩ ?_ (fun σ H5 _ => q H5)
    clear kt8 kd nown s48 ft etd etb
    rintro i σ H5 hi ⟨t, ⟨v5, v6, v7, rfl⟩, k5, s5, ft, kd, nown, rds⟩
    have i60 : i < 60 := by
      rw [List.length_map] at hi
      revert hi
      split <;> split <;> intro h <;> omega
    refine ⟨_, rfl, _, rfl, sa, ns, 2 + i, by simp, s5.seq hS4, by omega, fun p2 H6 hp2 pu2 s6 => ?_⟩
    refine ⟨_, rfl, _, rfl, ll, _, rfl, .inl (SqL.of (s6 _ _ (s5 _ _ hll))), p2, b, _, rooms, tr, tm, ps, rfl, by omega, by rw [List.length_map]; omega, hb4.same (s5.trans s6), by omega, gd.len, pu2, fun y o H7 g7 hy => ?_⟩
    have s7 : Same H5 H7 := But.same hp2 s6 g7.1
    refine ⟨_, rfl, _, rfl, ?_⟩
    delta tNil
    show spDoesW a.c_Trip [.ref t.x, y] H7 _ _
    refine does43 (k5.same s7) (by omega) hy fun cd t' H8 kp k8 ad c9 c0 hy8 eds => ?_
    have kd8 : H8 dl = some (.lst t.ds) := kp _ _ (fun z => nown _ (.inl z) rfl) (s7 _ _ kd)
    have s8 : Same H4 H8 := fun c u e => kp c u (fun z => by rw [ft c z] at e; cases e) (s7 _ _ (s5 _ _ e))
    have nown8 : ∀ c, t'.own c ∨ c = t'.lL ∨ c = t'.lH → c ≠ dl := fun c hc => nown c (by rw [ad.own, ad.lL, ad.lH] at hc; exact hc)
    have ft8 : ∀ c, t'.own c → H4 c = none := fun c hc => ft c ((ad.own c).mp hc)
    refine ⟨_, rfl, rfl, _, rfl, iteB0 (decide_eq_false fun z => by have := V.int.inj z; omega) ⟨_, rfl, rfl, _, rfl, y, o, rfl, hy8, fun H9 s9 => ⟨rfl, _, rfl, iteB0 ?_ ?_⟩⟩⟩
    · rw [show decide (V.int (cd : Int) = V.int 0) = decide (cd = 0) from decide_eq_decide.mpr ⟨fun z => by have := V.int.inj z; omega, fun z => by rw [z]; rfl⟩, c0]
      cases o.isSome <;> rfl
    have k9 := k8.same s9
    have s9' := s8.trans s9
    have kd9 := s9 _ _ kd8
    refine ⟨_, rfl, rfl, _, rfl, iteN (fun σ H' => σ = [some (.ref sa), some (.ref b), some (.ref ll), some (.ref t'.x), some (.ref dl), some (.int (2 + (i : Int))), some y, some (.int (cd : Int))] ∧ TrOk a.c_Trip H' t' rooms tr tm ps (1 + i + 1) ∧ Same H4 H' ∧ H' dl = some (.lst t'.ds) ∧ (∀ x ∈ t'.ds, ∃ a, x = V.ref a)) ?_ ?_ ?_⟩
    rotate_left
    · intro c k
      have c8 : cd = 8 := by have := V.int.inj (of_decide_eq_true c); omega
      rw [if_pos c8] at eds
      have ry : ∃ a, y = V.ref a := by
        cases o with
        | none => rw [c8] at c0; cases c0
        | some d => obtain ⟨a, e, _⟩ := (show DeedAt H8 y d from hy8); exact ⟨a, e⟩
      have dn := k5.dn
      refine ⟨_, rfl, .inl ⟨rfl, _, SqL.of kd9⟩, _, rfl, dl, _, _, rfl, rfl, kd9, by omega, k _ _ ⟨by rw [ad.x]; rfl, k9.keep fun c u hc e => ?_, fun c u e => ?_, by rw [upd_same, eds], fun x hx => ?_⟩⟩
      · rw [upd_ne]
        · exact e
        · intro z
          rcases hc with hc | hc | hc | ⟨xs, hc⟩
          · exact nown8 c (.inl hc) z
          · exact nown8 c (.inr (.inl hc)) z
          · exact nown8 c (.inr (.inr hc)) z
          · rw [z, kd9] at hc; cases hc
      · rw [upd_ne (ne_of_none e hdl4)]; exact s9' _ _ e
      · rw [eds] at hx
        rcases List.mem_append.mp hx with h | h
        · exact rds x h
        · rw [List.mem_singleton] at h; rw [h]; exact ry
    · intro c
      have c8 : cd ≠ 8 := fun z => by rw [z] at c; exact absurd c (by decide)
      rw [if_neg c8] at eds
      exact ⟨by rw [ad.x]; rfl, k9, s9', by rw [eds]; exact kd9, by rw [eds]; exact rds⟩
    rintro _ HA ⟨rfl, kA, sA, kdA, rdA⟩
    refine ⟨_, rfl, t'.x, t'.dx, _, rfl, kA.at_.ins, rfl, t'.x, t'.b, t'.dx, t'.lL, t'.lH, t'.lA, t'.lP, t'.lD, t'.ls, t'.hs, t'.os, t'.ns, t'.r, t'.ds, rfl, kA.at_, fun l1 hl1 => ?_⟩
    have kl : upd HA l1 (HO.lst t'.ds) l1 = some (.lst t'.ds) := upd_same
    have s1 := same_new (o := HO.lst t'.ds) hl1
    generalize upd HA l1 (HO.lst t'.ds) = HB at kl s1 ⊢
    refine ⟨_, "list", "list", rfl, (by simp only [tyS, kl]), .inr (.inr (.inl rfl)), _, rfl, iteB0 rfl ?_⟩
    have kB := kA.same s1
    refine ⟨_, rfl, t'.x, t'.dx, _, rfl, kB.at_.ins, rfl, t'.x, t'.b, t'.dx, t'.lL, t'.lH, t'.lA, t'.lP, t'.lD, t'.ls, t'.hs, t'.os, t'.ns, t'.r, t'.ds, rfl, kB.at_, fun l2 hl2 => ⟨_, rfl, eq_refsL upd_same (same_new hl2 _ _ (s1 _ _ kdA)) rdA ⟨_, rfl, iteB0 rfl ⟨t', ⟨_, _, _, rfl⟩, (kB.same (same_new hl2)), (sA.trans s1).trans (same_new hl2), ft8, same_new hl2 _ _ (s1 _ _ kdA), nown8, rdA⟩⟩⟩⟩
end
theorem all_mk {l : PySem.W.OpenLaw} {w : World} {K : PySem.W.Frag} {h : Heap} {mg : Str → Option Value} {fa f__law_purse f__law_take f__law_far f__law_rooms f__law_step f__law_meetings f__law_book f__law_time f__law_letter f__law_letters f__law_whole f_is_whole f_is_within f_is_below f_is_meeting_number f_is_walker f_other_at f_are_wholes f_is_passing f_is_drop f_Trip_takes_room f_Trip_note_arrival f_Trip___init__ f_Trip_bag f_Trip_done f_Trip_need_letter f_Trip_need_drop f_Trip_need_passing f_Trip_pass_on f_Trip_do f__law_any f__law_does f__law_thing_here f__law_is_deed f_law c_HasIt c_MeetError c_NoBook c_NoClaim c_NoDay c_NoDeed c_NoLetter c_NoMeeting c_NoName c_NoPass c_NoRoom c_NoRow c_NoRule c_NoText c_NoWalker c_NotThere c_TooMany c_Trip c_Twice : Addr} (X : K.In h) (G : h.Ns mainGlobals mg) (hfa : mg "law" = some (.ref fa))
    {d__law_purse d__law_take d__law_far d__law_rooms d__law_step d__law_meetings d__law_book d__law_time d__law_letter d__law_letters d__law_whole d_is_whole d_is_within d_is_below d_is_meeting_number d_is_walker d_other_at d_are_wholes d_is_passing d_is_drop d_Trip_takes_room d_Trip_note_arrival d_Trip___init__ d_Trip_bag d_Trip_done d_Trip_need_letter d_Trip_need_drop d_Trip_need_passing d_Trip_pass_on d_Trip_do d__law_any d__law_does d__law_thing_here d__law_is_deed d_law : FuncData}
    (a__law_purse : PySem.W.nsIn K mainGlobals "_law_purse" = some (some (.ref f__law_purse))) (F__law_purse : Fun K "_law_purse" "_law_purse" s__law_purse f__law_purse d__law_purse)
    (a__law_take : PySem.W.nsIn K mainGlobals "_law_take" = some (some (.ref f__law_take))) (F__law_take : Fun K "_law_take" "_law_take" s__law_take f__law_take d__law_take)
    (a__law_far : PySem.W.nsIn K mainGlobals "_law_far" = some (some (.ref f__law_far))) (F__law_far : Fun K "_law_far" "_law_far" s__law_far f__law_far d__law_far)
    (a__law_rooms : PySem.W.nsIn K mainGlobals "_law_rooms" = some (some (.ref f__law_rooms))) (F__law_rooms : Fun K "_law_rooms" "_law_rooms" s__law_rooms f__law_rooms d__law_rooms)
    (a__law_step : PySem.W.nsIn K mainGlobals "_law_step" = some (some (.ref f__law_step))) (F__law_step : Fun K "_law_step" "_law_step" s__law_step f__law_step d__law_step)
    (a__law_meetings : PySem.W.nsIn K mainGlobals "_law_meetings" = some (some (.ref f__law_meetings))) (F__law_meetings : Fun K "_law_meetings" "_law_meetings" s__law_meetings f__law_meetings d__law_meetings)
    (a__law_book : PySem.W.nsIn K mainGlobals "_law_book" = some (some (.ref f__law_book))) (F__law_book : Fun K "_law_book" "_law_book" s__law_book f__law_book d__law_book)
    (a__law_time : PySem.W.nsIn K mainGlobals "_law_time" = some (some (.ref f__law_time))) (F__law_time : Fun K "_law_time" "_law_time" s__law_time f__law_time d__law_time)
    (a__law_letter : PySem.W.nsIn K mainGlobals "_law_letter" = some (some (.ref f__law_letter))) (F__law_letter : Fun K "_law_letter" "_law_letter" s__law_letter f__law_letter d__law_letter)
    (a__law_letters : PySem.W.nsIn K mainGlobals "_law_letters" = some (some (.ref f__law_letters))) (F__law_letters : Fun K "_law_letters" "_law_letters" s__law_letters f__law_letters d__law_letters)
    (a__law_whole : PySem.W.nsIn K mainGlobals "_law_whole" = some (some (.ref f__law_whole))) (F__law_whole : Fun K "_law_whole" "_law_whole" s__law_whole f__law_whole d__law_whole)
    (a_is_whole : PySem.W.nsIn K mainGlobals "is_whole" = some (some (.ref f_is_whole))) (F_is_whole : Fun K "is_whole" "is_whole" s_is_whole f_is_whole d_is_whole)
    (a_is_within : PySem.W.nsIn K mainGlobals "is_within" = some (some (.ref f_is_within))) (F_is_within : Fun K "is_within" "is_within" s_is_within f_is_within d_is_within)
    (a_is_below : PySem.W.nsIn K mainGlobals "is_below" = some (some (.ref f_is_below))) (F_is_below : Fun K "is_below" "is_below" s_is_below f_is_below d_is_below)
    (a_is_meeting_number : PySem.W.nsIn K mainGlobals "is_meeting_number" = some (some (.ref f_is_meeting_number))) (F_is_meeting_number : Fun K "is_meeting_number" "is_meeting_number" s_is_meeting_number f_is_meeting_number d_is_meeting_number)
    (a_is_walker : PySem.W.nsIn K mainGlobals "is_walker" = some (some (.ref f_is_walker))) (F_is_walker : Fun K "is_walker" "is_walker" s_is_walker f_is_walker d_is_walker)
    (a_other_at : PySem.W.nsIn K mainGlobals "other_at" = some (some (.ref f_other_at))) (F_other_at : Fun K "other_at" "other_at" s_other_at f_other_at d_other_at)
    (a_are_wholes : PySem.W.nsIn K mainGlobals "are_wholes" = some (some (.ref f_are_wholes))) (F_are_wholes : Fun K "are_wholes" "are_wholes" s_are_wholes f_are_wholes d_are_wholes)
    (a_is_passing : PySem.W.nsIn K mainGlobals "is_passing" = some (some (.ref f_is_passing))) (F_is_passing : Fun K "is_passing" "is_passing" s_is_passing f_is_passing d_is_passing)
    (a_is_drop : PySem.W.nsIn K mainGlobals "is_drop" = some (some (.ref f_is_drop))) (F_is_drop : Fun K "is_drop" "is_drop" s_is_drop f_is_drop d_is_drop)
    (a_Trip_takes_room : PySem.W.findIn K (.ref c_Trip) "takes_room" = some (some (.ref f_Trip_takes_room))) (j_Trip_takes_room : PySem.W.isFn K (.ref f_Trip_takes_room) = true) (F_Trip_takes_room : Fun K "takes_room" "Trip.takes_room" s_Trip_takes_room f_Trip_takes_room d_Trip_takes_room)
    (a_Trip_note_arrival : PySem.W.findIn K (.ref c_Trip) "note_arrival" = some (some (.ref f_Trip_note_arrival))) (j_Trip_note_arrival : PySem.W.isFn K (.ref f_Trip_note_arrival) = true) (F_Trip_note_arrival : Fun K "note_arrival" "Trip.note_arrival" s_Trip_note_arrival f_Trip_note_arrival d_Trip_note_arrival)
    (a_Trip___init__ : PySem.W.findIn K (.ref c_Trip) "__init__" = some (some (.ref f_Trip___init__))) (j_Trip___init__ : PySem.W.isFn K (.ref f_Trip___init__) = true) (F_Trip___init__ : Fun K "__init__" "Trip.__init__" s_Trip___init__ f_Trip___init__ d_Trip___init__)
    (a_Trip_bag : PySem.W.findIn K (.ref c_Trip) "bag" = some (some (.ref f_Trip_bag))) (j_Trip_bag : PySem.W.isFn K (.ref f_Trip_bag) = true) (F_Trip_bag : Fun K "bag" "Trip.bag" s_Trip_bag f_Trip_bag d_Trip_bag)
    (a_Trip_done : PySem.W.findIn K (.ref c_Trip) "done" = some (some (.ref f_Trip_done))) (j_Trip_done : PySem.W.isFn K (.ref f_Trip_done) = true) (F_Trip_done : Fun K "done" "Trip.done" s_Trip_done f_Trip_done d_Trip_done)
    (a_Trip_need_letter : PySem.W.findIn K (.ref c_Trip) "need_letter" = some (some (.ref f_Trip_need_letter))) (j_Trip_need_letter : PySem.W.isFn K (.ref f_Trip_need_letter) = true) (F_Trip_need_letter : Fun K "need_letter" "Trip.need_letter" s_Trip_need_letter f_Trip_need_letter d_Trip_need_letter)
    (a_Trip_need_drop : PySem.W.findIn K (.ref c_Trip) "need_drop" = some (some (.ref f_Trip_need_drop))) (j_Trip_need_drop : PySem.W.isFn K (.ref f_Trip_need_drop) = true) (F_Trip_need_drop : Fun K "need_drop" "Trip.need_drop" s_Trip_need_drop f_Trip_need_drop d_Trip_need_drop)
    (a_Trip_need_passing : PySem.W.findIn K (.ref c_Trip) "need_passing" = some (some (.ref f_Trip_need_passing))) (j_Trip_need_passing : PySem.W.isFn K (.ref f_Trip_need_passing) = true) (F_Trip_need_passing : Fun K "need_passing" "Trip.need_passing" s_Trip_need_passing f_Trip_need_passing d_Trip_need_passing)
    (a_Trip_pass_on : PySem.W.findIn K (.ref c_Trip) "pass_on" = some (some (.ref f_Trip_pass_on))) (j_Trip_pass_on : PySem.W.isFn K (.ref f_Trip_pass_on) = true) (F_Trip_pass_on : Fun K "pass_on" "Trip.pass_on" s_Trip_pass_on f_Trip_pass_on d_Trip_pass_on)
    (a_Trip_do : PySem.W.findIn K (.ref c_Trip) "do" = some (some (.ref f_Trip_do))) (j_Trip_do : PySem.W.isFn K (.ref f_Trip_do) = true) (F_Trip_do : Fun K "do" "Trip.do" s_Trip_do f_Trip_do d_Trip_do)
    (a__law_any : PySem.W.nsIn K mainGlobals "_law_any" = some (some (.ref f__law_any))) (F__law_any : Fun K "_law_any" "_law_any" s__law_any f__law_any d__law_any)
    (a__law_does : PySem.W.nsIn K mainGlobals "_law_does" = some (some (.ref f__law_does))) (F__law_does : Fun K "_law_does" "_law_does" s__law_does f__law_does d__law_does)
    (a__law_thing_here : PySem.W.nsIn K mainGlobals "_law_thing_here" = some (some (.ref f__law_thing_here))) (F__law_thing_here : Fun K "_law_thing_here" "_law_thing_here" s__law_thing_here f__law_thing_here d__law_thing_here)
    (a__law_is_deed : PySem.W.nsIn K mainGlobals "_law_is_deed" = some (some (.ref f__law_is_deed))) (F__law_is_deed : Fun K "_law_is_deed" "_law_is_deed" s__law_is_deed f__law_is_deed d__law_is_deed)
    (a_law : PySem.W.nsIn K mainGlobals "law" = some (some (.ref f_law))) (F_law : Fun K "law" "law" s_law f_law d_law)
    (z_ValueError : PySem.W.nsIn K mainGlobals "ValueError" = some none)
    (z_all : PySem.W.nsIn K mainGlobals "all" = some none)
    (z_bool : PySem.W.nsIn K mainGlobals "bool" = some none)
    (z_enumerate : PySem.W.nsIn K mainGlobals "enumerate" = some none)
    (z_int : PySem.W.nsIn K mainGlobals "int" = some none)
    (z_isinstance : PySem.W.nsIn K mainGlobals "isinstance" = some none)
    (z_len : PySem.W.nsIn K mainGlobals "len" = some none)
    (z_list : PySem.W.nsIn K mainGlobals "list" = some none)
    (z_max : PySem.W.nsIn K mainGlobals "max" = some none)
    (z_min : PySem.W.nsIn K mainGlobals "min" = some none)
    (z_range : PySem.W.nsIn K mainGlobals "range" = some none)
    (z_sorted : PySem.W.nsIn K mainGlobals "sorted" = some none)
    (z_tuple : PySem.W.nsIn K mainGlobals "tuple" = some none)
    (e_HasIt : PySem.W.nsIn K mainGlobals "HasIt" = some (some (.ref c_HasIt)))
    (e_MeetError : PySem.W.nsIn K mainGlobals "MeetError" = some (some (.ref c_MeetError)))
    (e_NoBook : PySem.W.nsIn K mainGlobals "NoBook" = some (some (.ref c_NoBook)))
    (e_NoClaim : PySem.W.nsIn K mainGlobals "NoClaim" = some (some (.ref c_NoClaim)))
    (e_NoDay : PySem.W.nsIn K mainGlobals "NoDay" = some (some (.ref c_NoDay)))
    (e_NoDeed : PySem.W.nsIn K mainGlobals "NoDeed" = some (some (.ref c_NoDeed)))
    (e_NoLetter : PySem.W.nsIn K mainGlobals "NoLetter" = some (some (.ref c_NoLetter)))
    (e_NoMeeting : PySem.W.nsIn K mainGlobals "NoMeeting" = some (some (.ref c_NoMeeting)))
    (e_NoName : PySem.W.nsIn K mainGlobals "NoName" = some (some (.ref c_NoName)))
    (e_NoPass : PySem.W.nsIn K mainGlobals "NoPass" = some (some (.ref c_NoPass)))
    (e_NoRoom : PySem.W.nsIn K mainGlobals "NoRoom" = some (some (.ref c_NoRoom)))
    (e_NoRow : PySem.W.nsIn K mainGlobals "NoRow" = some (some (.ref c_NoRow)))
    (e_NoRule : PySem.W.nsIn K mainGlobals "NoRule" = some (some (.ref c_NoRule)))
    (e_NoText : PySem.W.nsIn K mainGlobals "NoText" = some (some (.ref c_NoText)))
    (e_NoWalker : PySem.W.nsIn K mainGlobals "NoWalker" = some (some (.ref c_NoWalker)))
    (e_NotThere : PySem.W.nsIn K mainGlobals "NotThere" = some (some (.ref c_NotThere)))
    (e_TooMany : PySem.W.nsIn K mainGlobals "TooMany" = some (some (.ref c_TooMany)))
    (e_Trip : PySem.W.nsIn K mainGlobals "Trip" = some (some (.ref c_Trip)))
    (e_Twice : PySem.W.nsIn K mainGlobals "Twice" = some (some (.ref c_Twice)))
    (pg_Trip : PySem.W.plainGet K c_Trip Str.empty = true) (hd_Trip : PySem.W.hasDictIn K c_Trip = true) (po_Trip : PySem.W.plainOver K c_Trip = true) (sa_Trip : PySem.W.findIn K (.ref c_Trip) "__setattr__" = some (some (.builtin "object.__setattr__")))
    (mk_Trip : PySem.W.makesIn K c_Trip = true) (kc_Trip : PySem.W.keepIn K (.ref c_Trip) = true)
    (nf_Trip_book : PySem.W.findIn K (.ref c_Trip) "book" = some none)
    (nf_Trip_letters : PySem.W.findIn K (.ref c_Trip) "letters" = some none)
    (nf_Trip_holders : PySem.W.findIn K (.ref c_Trip) "holders" = some none)
    (nf_Trip_arrivals : PySem.W.findIn K (.ref c_Trip) "arrivals" = some none)
    (nf_Trip_passed : PySem.W.findIn K (.ref c_Trip) "passed" = some none)
    (nf_Trip_reached : PySem.W.findIn K (.ref c_Trip) "reached" = some none)
    (nf_Trip_deeds : PySem.W.findIn K (.ref c_Trip) "deeds" = some none)
    (xx_NoDeed : xclsB K c_NoDeed = true)
    (xx_NoMeeting : xclsB K c_NoMeeting = true)
    (xx_NoLetter : xclsB K c_NoLetter = true)
    (xx_NoWalker : xclsB K c_NoWalker = true)
    (xx_NotThere : xclsB K c_NotThere = true)
    (xx_HasIt : xclsB K c_HasIt = true)
    (xx_NoPass : xclsB K c_NoPass = true)
    (xx_NoRoom : xclsB K c_NoRoom = true)
    (ff_f_xc : xcB K ⟨c_NoDeed, c_NoMeeting, c_NoLetter, c_NoWalker, c_NotThere, c_HasIt, c_NoPass, c_NoRoom⟩ c_MeetError [c_NoBook, c_NoRule, c_TooMany, c_NoDay, c_NoClaim, c_NoText, c_NoRow, c_NoName, c_Twice] = true) :
    ∃ fd : FuncData, (∀ (s : Shared) (v : Value), BindsTo s fd ⟨[v], []⟩ [("_law_script_here", v)]) ∧ ∀ base : Heap, K.In base → base.Ns mainGlobals mg → FnOk l.prog w K mg base CX0 7 fa fd ["_law_script_here"] (spLaw K) := by
  have e := hfa.symm.trans (PySem.W.mg_of X G a_law)
  cases e
  have b__law_purse := F__law_purse.binds (ps := ["_law_script", "_law_k"]) fun _ _ _ _ _ _ us hl => us2 hl fun _ _ => rfl
  have b__law_take := F__law_take.binds (ps := ["_law_purse_here", "_law_many"]) fun _ _ _ _ _ _ us hl => us2 hl fun _ _ => rfl
  have b__law_far := F__law_far.binds (ps := ["_law_purse_here"]) fun _ _ _ _ _ _ us hl => us1 hl fun _ => rfl
  have b__law_rooms := F__law_rooms.binds (ps := ["_law_purse_here", "_law_walkers"]) fun _ _ _ _ _ _ us hl => us2 hl fun _ _ => rfl
  have b__law_step := F__law_step.binds (ps := ["_law_purse_here"]) fun _ _ _ _ _ _ us hl => us1 hl fun _ => rfl
  have b__law_meetings := F__law_meetings.binds (ps := ["_law_purse_here", "_law_walkers", "_law_most"]) fun _ _ _ _ _ _ us hl => us3 hl fun _ _ _ => rfl
  have b__law_book := F__law_book.binds (ps := ["_law_purse_here", "_law_most_walkers", "_law_most_meetings"]) fun _ _ _ _ _ _ us hl => us3 hl fun _ _ _ => rfl
  have b__law_time := F__law_time.binds (ps := ["_law_purse_here", "_law_book_here", "_law_later"]) fun _ _ _ _ _ _ us hl => us3 hl fun _ _ _ => rfl
  have b__law_letter := F__law_letter.binds (ps := ["_law_purse_here", "_law_book_here"]) fun _ _ _ _ _ _ us hl => us2 hl fun _ _ => rfl
  have b__law_letters := F__law_letters.binds (ps := ["_law_purse_here", "_law_book_here"]) fun _ _ _ _ _ _ us hl => us2 hl fun _ _ => rfl
  have b__law_whole := F__law_whole.binds (ps := ["_law_thing_here"]) fun _ _ _ _ _ _ us hl => us1 hl fun _ => rfl
  have b_is_whole := F_is_whole.binds (ps := ["thing"]) fun _ _ _ _ _ _ us hl => us1 hl fun _ => rfl
  have b_is_within := F_is_within.binds (ps := ["thing", "least", "most"]) fun _ _ _ _ _ _ us hl => us3 hl fun _ _ _ => rfl
  have b_is_below := F_is_below.binds (ps := ["number", "bound"]) fun _ _ _ _ _ _ us hl => us2 hl fun _ _ => rfl
  have b_is_meeting_number := F_is_meeting_number.binds (ps := ["book", "thing"]) fun _ _ _ _ _ _ us hl => us2 hl fun _ _ => rfl
  have b_is_walker := F_is_walker.binds (ps := ["book", "thing"]) fun _ _ _ _ _ _ us hl => us2 hl fun _ _ => rfl
  have b_other_at := F_other_at.binds (ps := ["book", "number", "walker"]) fun _ _ _ _ _ _ us hl => us3 hl fun _ _ _ => rfl
  have b_are_wholes := F_are_wholes.binds (ps := ["things"]) fun _ _ _ _ _ _ us hl => us1 hl fun _ => rfl
  have b_is_passing := F_is_passing.binds (ps := ["thing"]) fun _ _ _ _ _ _ us hl => us1 hl fun _ => rfl
  have b_is_drop := F_is_drop.binds (ps := ["thing"]) fun _ _ _ _ _ _ us hl => us1 hl fun _ => rfl
  have b_Trip_takes_room := F_Trip_takes_room.binds (ps := ["self", "letter", "walker"]) fun _ _ _ _ _ _ us hl => us3 hl fun _ _ _ => rfl
  have b_Trip_note_arrival := F_Trip_note_arrival.binds (ps := ["self", "letter", "walker", "time"]) fun _ _ _ _ _ _ us hl => us4 hl fun _ _ _ _ => rfl
  have b_Trip___init__ := F_Trip___init__.binds (ps := ["self", "book", "letters"]) fun _ _ _ _ _ _ us hl => us3 hl fun _ _ _ => rfl
  have b_Trip_bag := F_Trip_bag.binds (ps := ["self", "walker"]) fun _ _ _ _ _ _ us hl => us2 hl fun _ _ => rfl
  have b_Trip_done := F_Trip_done.binds (ps := ["self"]) fun _ _ _ _ _ _ us hl => us1 hl fun _ => rfl
  have b_Trip_need_letter := F_Trip_need_letter.binds (ps := ["self", "letter"]) fun _ _ _ _ _ _ us hl => us2 hl fun _ _ => rfl
  have b_Trip_need_drop := F_Trip_need_drop.binds (ps := ["self", "letter", "walker"]) fun _ _ _ _ _ _ us hl => us3 hl fun _ _ _ => rfl
  have b_Trip_need_passing := F_Trip_need_passing.binds (ps := ["self", "meeting", "letter", "giver"]) fun _ _ _ _ _ _ us hl => us4 hl fun _ _ _ _ => rfl
  have b_Trip_pass_on := F_Trip_pass_on.binds (ps := ["self", "meeting", "letter", "giver"]) fun _ _ _ _ _ _ us hl => us4 hl fun _ _ _ _ => rfl
  have b_Trip_do := F_Trip_do.binds (ps := ["self", "deed"]) fun _ _ _ _ _ _ us hl => us2 hl fun _ _ => rfl
  have b__law_any := F__law_any.binds (ps := ["_law_purse_here", "_law_many"]) fun _ _ _ _ _ _ us hl => us2 hl fun _ _ => rfl
  have b__law_does := F__law_does.binds (ps := ["_law_trip", "_law_deed"]) fun _ _ _ _ _ _ us hl => us2 hl fun _ _ => rfl
  have b__law_thing_here := F__law_thing_here.binds (ps := ["_law_purse_here", "_law_book_here", "_law_many"]) fun _ _ _ _ _ _ us hl => us3 hl fun _ _ _ => rfl
  have b__law_is_deed := F__law_is_deed.binds (ps := ["_law_thing_here_here"]) fun _ _ _ _ _ _ us hl => us1 hl fun _ => rfl
  have b_law := F_law.binds (ps := ["_law_script_here"]) fun _ _ _ _ _ _ us hl => us1 hl fun _ => rfl
  have T : Tx K mg ⟨f__law_purse, d__law_purse, f__law_take, d__law_take, f__law_far, d__law_far, f__law_rooms, d__law_rooms, f__law_step, d__law_step, f__law_meetings, d__law_meetings, f__law_book, d__law_book, f__law_time, d__law_time, f__law_letter, d__law_letter, f__law_letters, d__law_letters, f__law_whole, d__law_whole, f_is_whole, d_is_whole, f_is_within, d_is_within, f_is_below, d_is_below, f_is_meeting_number, d_is_meeting_number, f_is_walker, d_is_walker, f_other_at, d_other_at, f_are_wholes, d_are_wholes, f_is_passing, d_is_passing, f_is_drop, d_is_drop, f_Trip_takes_room, d_Trip_takes_room, f_Trip_note_arrival, d_Trip_note_arrival, f_Trip___init__, d_Trip___init__, f_Trip_bag, d_Trip_bag, f_Trip_done, d_Trip_done, f_Trip_need_letter, d_Trip_need_letter, f_Trip_need_drop, d_Trip_need_drop, f_Trip_need_passing, d_Trip_need_passing, f_Trip_pass_on, d_Trip_pass_on, f_Trip_do, d_Trip_do, f__law_any, d__law_any, f__law_does, d__law_does, f__law_thing_here, d__law_thing_here, f__law_is_deed, d__law_is_deed, fa, d_law, c_HasIt, c_MeetError, c_NoBook, c_NoClaim, c_NoDay, c_NoDeed, c_NoLetter, c_NoMeeting, c_NoName, c_NoPass, c_NoRoom, c_NoRow, c_NoRule, c_NoText, c_NoWalker, c_NotThere, c_TooMany, c_Trip, c_Twice⟩ := ⟨F__law_purse, b__law_purse, PySem.W.mg_of X G a__law_purse, F__law_purse.kp, F__law_take, b__law_take, PySem.W.mg_of X G a__law_take, F__law_take.kp, F__law_far, b__law_far, PySem.W.mg_of X G a__law_far, F__law_far.kp, F__law_rooms, b__law_rooms, PySem.W.mg_of X G a__law_rooms, F__law_rooms.kp, F__law_step, b__law_step, PySem.W.mg_of X G a__law_step, F__law_step.kp, F__law_meetings, b__law_meetings, PySem.W.mg_of X G a__law_meetings, F__law_meetings.kp, F__law_book, b__law_book, PySem.W.mg_of X G a__law_book, F__law_book.kp, F__law_time, b__law_time, PySem.W.mg_of X G a__law_time, F__law_time.kp, F__law_letter, b__law_letter, PySem.W.mg_of X G a__law_letter, F__law_letter.kp, F__law_letters, b__law_letters, PySem.W.mg_of X G a__law_letters, F__law_letters.kp, F__law_whole, b__law_whole, PySem.W.mg_of X G a__law_whole, F__law_whole.kp, F_is_whole, b_is_whole, PySem.W.mg_of X G a_is_whole, F_is_whole.kp, F_is_within, b_is_within, PySem.W.mg_of X G a_is_within, F_is_within.kp, F_is_below, b_is_below, PySem.W.mg_of X G a_is_below, F_is_below.kp, F_is_meeting_number, b_is_meeting_number, PySem.W.mg_of X G a_is_meeting_number, F_is_meeting_number.kp, F_is_walker, b_is_walker, PySem.W.mg_of X G a_is_walker, F_is_walker.kp, F_other_at, b_other_at, PySem.W.mg_of X G a_other_at, F_other_at.kp, F_are_wholes, b_are_wholes, PySem.W.mg_of X G a_are_wholes, F_are_wholes.kp, F_is_passing, b_is_passing, PySem.W.mg_of X G a_is_passing, F_is_passing.kp, F_is_drop, b_is_drop, PySem.W.mg_of X G a_is_drop, F_is_drop.kp, F_Trip_takes_room, b_Trip_takes_room, ⟨a_Trip_takes_room, j_Trip_takes_room, F_Trip_takes_room.kp⟩, F_Trip_takes_room.kp, F_Trip_note_arrival, b_Trip_note_arrival, ⟨a_Trip_note_arrival, j_Trip_note_arrival, F_Trip_note_arrival.kp⟩, F_Trip_note_arrival.kp, F_Trip___init__, b_Trip___init__, ⟨a_Trip___init__, j_Trip___init__, F_Trip___init__.kp⟩, F_Trip___init__.kp, F_Trip_bag, b_Trip_bag, ⟨a_Trip_bag, j_Trip_bag, F_Trip_bag.kp⟩, F_Trip_bag.kp, F_Trip_done, b_Trip_done, ⟨a_Trip_done, j_Trip_done, F_Trip_done.kp⟩, F_Trip_done.kp, F_Trip_need_letter, b_Trip_need_letter, ⟨a_Trip_need_letter, j_Trip_need_letter, F_Trip_need_letter.kp⟩, F_Trip_need_letter.kp, F_Trip_need_drop, b_Trip_need_drop, ⟨a_Trip_need_drop, j_Trip_need_drop, F_Trip_need_drop.kp⟩, F_Trip_need_drop.kp, F_Trip_need_passing, b_Trip_need_passing, ⟨a_Trip_need_passing, j_Trip_need_passing, F_Trip_need_passing.kp⟩, F_Trip_need_passing.kp, F_Trip_pass_on, b_Trip_pass_on, ⟨a_Trip_pass_on, j_Trip_pass_on, F_Trip_pass_on.kp⟩, F_Trip_pass_on.kp, F_Trip_do, b_Trip_do, ⟨a_Trip_do, j_Trip_do, F_Trip_do.kp⟩, F_Trip_do.kp, F__law_any, b__law_any, PySem.W.mg_of X G a__law_any, F__law_any.kp, F__law_does, b__law_does, PySem.W.mg_of X G a__law_does, F__law_does.kp, F__law_thing_here, b__law_thing_here, PySem.W.mg_of X G a__law_thing_here, F__law_thing_here.kp, F__law_is_deed, b__law_is_deed, PySem.W.mg_of X G a__law_is_deed, F__law_is_deed.kp, F_law, b_law, PySem.W.mg_of X G a_law, F_law.kp, PySem.W.mg_none_of X G z_ValueError, PySem.W.mg_none_of X G z_all, PySem.W.mg_none_of X G z_bool, PySem.W.mg_none_of X G z_enumerate, PySem.W.mg_none_of X G z_int, PySem.W.mg_none_of X G z_isinstance, PySem.W.mg_none_of X G z_len, PySem.W.mg_none_of X G z_list, PySem.W.mg_none_of X G z_max, PySem.W.mg_none_of X G z_min, PySem.W.mg_none_of X G z_range, PySem.W.mg_none_of X G z_sorted, PySem.W.mg_none_of X G z_tuple, PySem.W.mg_of X G e_HasIt, PySem.W.mg_of X G e_MeetError, PySem.W.mg_of X G e_NoBook, PySem.W.mg_of X G e_NoClaim, PySem.W.mg_of X G e_NoDay, PySem.W.mg_of X G e_NoDeed, PySem.W.mg_of X G e_NoLetter, PySem.W.mg_of X G e_NoMeeting, PySem.W.mg_of X G e_NoName, PySem.W.mg_of X G e_NoPass, PySem.W.mg_of X G e_NoRoom, PySem.W.mg_of X G e_NoRow, PySem.W.mg_of X G e_NoRule, PySem.W.mg_of X G e_NoText, PySem.W.mg_of X G e_NoWalker, PySem.W.mg_of X G e_NotThere, PySem.W.mg_of X G e_TooMany, PySem.W.mg_of X G e_Trip, PySem.W.mg_of X G e_Twice, XCls.of xx_NoDeed, XCls.of xx_NoMeeting, XCls.of xx_NoLetter, XCls.of xx_NoWalker, XCls.of xx_NotThere, XCls.of xx_HasIt, XCls.of xx_NoPass, XCls.of xx_NoRoom, ⟨pg_Trip, hd_Trip, po_Trip, sa_Trip⟩, ⟨mk_Trip, a_Trip___init__, j_Trip___init__, kc_Trip⟩, nf_Trip_book, nf_Trip_letters, nf_Trip_holders, nf_Trip_arrivals, nf_Trip_passed, nf_Trip_reached, nf_Trip_deeds, ff_f_xc⟩
  obtain ⟨_, _, _, _, _, _, _, _, _, rfl, _, _⟩ := F_law.ex
  exact ⟨_, fun s v => .of_eq rfl, fun base _ _ => ok_law T⟩
theorem walk {l : PySem.W.OpenLaw} {q : Program} {loose : List Str} {XP : (Str → Option Value) → Heap → Prop} {YP : World → Heap → Prop} {d : DefRec} {K : Params → PySem.W.Frag} (hn : l.most = some 63) (hdf : d.params.defaults = [])
    (hY : ∀ (w : World) (h : Heap), YP w h → (K w.params).In h)
    (F : ∀ (w : World) (mg : Str → Option Value) (fa : Addr) (h : Heap), (K w.params).In h → h.Ns mainGlobals mg → mg d.name = some (.ref fa) →
      ∃ fd : FuncData, (∀ (s : Shared) (u : Value), BindsTo s fd ⟨[u], []⟩ [("_law_script_here", u)]) ∧ ∀ base : Heap, (K w.params).In base → base.Ns mainGlobals mg → FnOk l.prog w (K w.params) mg base CX0 7 fa fd ["_law_script_here"] (spLaw (K w.params))) :
    PySem.W.WalkO q loose XP YP l.row.toRowW d [] (fun f vs => PySem.call f vs) :=
  L2.walk_of (n := 63) (k := 7) (x := "_law_script_here") (CX := fun _ => CX0) (sp := fun w => spLaw (K w.params)) hn (by decide) hdf ⟨rfl, by decide, by decide⟩ hY F (fun _ _ a ns hl _ hS => ⟨a, ns, rfl, hS, hl, fun _ => rfl⟩) fun _ _ _ _ _ z => z
end Sm
namespace PySem.W.Fast
def tw8761613271063383400 : Nat := 0
def tw17597205554020638560 : Nat := 0
def tw11156540676474778394 : Nat := 0
def tw3454071802976252499 : Nat := 0
def tw8916706957665621112 : Nat := 0
def tw958992581599787196 : Nat := 0
def tw11934222751035579327 : Nat := 0
def tw6097425503739043064 : Nat := 0
def tw7157775835229440774 : Nat := 0
def tw13869353271383155786 : Nat := 0
def tw5489506288512399446 : Nat := 0
def tw17624019736680733607 : Nat := 0
def tw9777465633808619529 : Nat := 0
def tw10995890631402855057 : Nat := 0
def tw6120104610754305937 : Nat := 0
def tw15621375988294709203 : Nat := 0
def tw4045804748569416922 : Nat := 0
def tw17481168727828340620 : Nat := 0
def tw5565424831191923162 : Nat := 0
def tw8687080410070839134 : Nat := 0
def tw5252760213241082931 : Nat := 0
def tw12101407821933254598 : Nat := 0
def tw6188455751795199500 : Nat := 0
def tw5013784244630876595 : Nat := 0
def tw10109327795285853167 : Nat := 0
def tw5273820576677335851 : Nat := 0
def tw7327673672579797419 : Nat := 0
def tw13224418048445844244 : Nat := 0
def tw13228058639949389322 : Nat := 0
def tw9646959960604004024 : Nat := 0
def tw17300000173917915372 : Nat := 0
def tw14477322341852035323 : Nat := 0
def tw17023787049312149043 : Nat := 0
def tw5703102281898420629 : Nat := 0
def tw17827830570556645403 : Nat := 0
def tw6362628490319911336 : Nat := 0
def tw13808855058943880346 : Nat := 0
def tw5602796311983843955 : Nat := 0
def tw9048483223039328965 : Nat := 0
def tw693982234340353809 : Nat := 0
def tw18156641945375232519 : Nat := 0
def tw8789990191144632646 : Nat := 0
def tw15686344760939673651 : Nat := 0
def tw10652295539351839200 : Nat := 0
def tw2870473163234260029 : Nat := 0
def tw9243169692052945013 : Nat := 0
def tw7083518426060214402 : Nat := 0
def tw8624960516953641545 : Nat := 0
def tw3803058205961386862 : Nat := 0
def tw12807293558680485081 : Nat := 0
def tw5721762910775275537 : Nat := 0
def tw14507961641831542858 : Nat := 0
def tw16416096784526428544 : Nat := 0
def tw9154501940921890092 : Nat := 0
def tw17918601424079669414 : Nat := 0
def tw9745944438899307236 : Nat := 0
def tw3934388582542420085 : Nat := 0
def tw17127260340355877752 : Nat := 0
def tw9407670939303098436 : Nat := 0
def tw11092847704854612803 : Nat := 0
def tw5797328634073320876 : Nat := 0
def tw12671349542286832969 : Nat := 0
def tw4449190084871259268 : Nat := 0
def tw507607947110236288 : Nat := 0
def tw2650880009623955818 : Nat := 0
def tw427996101107745592 : Nat := 0
def tw1887009900204742131 : Nat := 0
def tw12646937935835756979 : Nat := 0
def tw25369423968552083 : Nat := 0
def tw3237884852085782411 : Nat := 0
def tw5755774105817292502 : Nat := 0
def tw17925965130489749834 : Nat := 0
def tw2387646035035845616 : Nat := 0
def tw1560145255896055335 : Nat := 0
def tw16772428355183008439 : Nat := 0
def tw683355390497571106 : Nat := 0
def tw2485781385035955431 : Nat := 0
def tw18399606595927699487 : Nat := 0
def tw12277614113144534770 : Nat := 0
def tw15727693430188450051 : Nat := 0
def tw16416720899313803213 : Nat := 0
def tw8556369853114940611 : Nat := 0
def tw8710486935166422245 : Nat := 0
def tw8728408819747457978 : Nat := 0
def tw6355971273597095594 : Nat := 0
def tw4614337233117883645 : Nat := 0
def tw11203532529182105550 : Nat := 0
def tw13194272994036842478 : Nat := 0
def tw10274178739859765562 : Nat := 0
def tw7195206966780679208 : Nat := 0
def tw3981194638017596024 : Nat := 0
def tw13169416279354570817 : Nat := 0
def tw9500378963266368044 : Nat := 0
def tw7839824341576660401 : Nat := 0
def tw15473960398970360225 : Nat := 0
def tw10639665391582988078 : Nat := 0
def tw1748945965118052304 : Nat := 0
def tw518300459466451336 : Nat := 0
def tw6706505488815922607 : Nat := 0
def tw11212793470362008646 : Nat := 0
def tw725142529081688700 : Nat := 0
def tw18421493174991304133 : Nat := 0
def tw15003688277821250462 : Nat := 0
def tw4475199905699835167 : Nat := 0
def tw5217563967177520294 : Nat := 0
def tw4101063841281984546 : Nat := 0
def tw10772919580286971608 : Nat := 0
def tw14615529901319986305 : Nat := 0
def tw5166879360846255208 : Nat := 0
def tw11920900978185532426 : Nat := 0
def tw7371113964458625159 : Nat := 0
def tw271798137427671838 : Nat := 0
def tw14183025130183365421 : Nat := 0
def tw216862137779292436 : Nat := 0
def tw17617588942851500442 : Nat := 0
def tw7280165415898820647 : Nat := 0
def tw11635764963240703386 : Nat := 0
def tw9998550341104848917 : Nat := 0
def tw15186099765472078011 : Nat := 0
def tw18184884635729235291 : Nat := 0
def tw4149749717847148660 : Nat := 0
def tw6079281479654904024 : Nat := 0
def tw18292935671776408186 : Nat := 0
def tw6285369485404209807 : Nat := 0
def tw9419217578777477141 : Nat := 0
def tw3978167153075526785 : Nat := 0
def tw18011550519993772993 : Nat := 0
def tw14281876050024368802 : Nat := 0
def tw14767620693073707770 : Nat := 0
def tw335050059332793835 : Nat := 0
def tw4514890741650173656 : Nat := 0
def tw16312626782315025738 : Nat := 0
def tw11845769888694145706 : Nat := 0
def tw14894020061359016239 : Nat := 0
def tw2063620900757730042 : Nat := 0
def tw1011911158823094974 : Nat := 0
def tw2733487999950601338 : Nat := 0
def tw15982004418309700681 : Nat := 0
end PySem.W.Fast
open PySem PySem.W PyProof.Rows
set_option maxRecDepth 100000 in
set_option maxHeartbeats 0 in
theorem PySem.Challenge.cw_satchelmeet_k43_forms_of_deeds_holds : PySem.Challenge.rw_satchelmeet_k43_forms_of_deeds.Holds := by
  w_on; o_law; k_head; (case hw => w_witness2)
  k_fill
  refine Sm.walk (l := PySem.Challenge.rw_satchelmeet_k43_forms_of_deeds) rfl rfl (fun w h Y => PySem.W.kIn_of Y) ?F
  case F =>
    intro w mg fa h KX G hmg
    refine' Sm.all_mk KX G hmg ?a__law_purse ?F__law_purse ?a__law_take ?F__law_take ?a__law_far ?F__law_far ?a__law_rooms ?F__law_rooms ?a__law_step ?F__law_step ?a__law_meetings ?F__law_meetings ?a__law_book ?F__law_book ?a__law_time ?F__law_time ?a__law_letter ?F__law_letter ?a__law_letters ?F__law_letters ?a__law_whole ?F__law_whole ?a_is_whole ?F_is_whole ?a_is_within ?F_is_within ?a_is_below ?F_is_below ?a_is_meeting_number ?F_is_meeting_number ?a_is_walker ?F_is_walker ?a_other_at ?F_other_at ?a_are_wholes ?F_are_wholes ?a_is_passing ?F_is_passing ?a_is_drop ?F_is_drop ?a_Trip_takes_room ?j_Trip_takes_room ?F_Trip_takes_room ?a_Trip_note_arrival ?j_Trip_note_arrival ?F_Trip_note_arrival ?a_Trip___init__ ?j_Trip___init__ ?F_Trip___init__ ?a_Trip_bag ?j_Trip_bag ?F_Trip_bag ?a_Trip_done ?j_Trip_done ?F_Trip_done ?a_Trip_need_letter ?j_Trip_need_letter ?F_Trip_need_letter ?a_Trip_need_drop ?j_Trip_need_drop ?F_Trip_need_drop ?a_Trip_need_passing ?j_Trip_need_passing ?F_Trip_need_passing ?a_Trip_pass_on ?j_Trip_pass_on ?F_Trip_pass_on ?a_Trip_do ?j_Trip_do ?F_Trip_do ?a__law_any ?F__law_any ?a__law_does ?F__law_does ?a__law_thing_here ?F__law_thing_here ?a__law_is_deed ?F__law_is_deed ?a_law ?F_law ?z_ValueError ?z_all ?z_bool ?z_enumerate ?z_int ?z_isinstance ?z_len ?z_list ?z_max ?z_min ?z_range ?z_sorted ?z_tuple ?e_HasIt ?e_MeetError ?e_NoBook ?e_NoClaim ?e_NoDay ?e_NoDeed ?e_NoLetter ?e_NoMeeting ?e_NoName ?e_NoPass ?e_NoRoom ?e_NoRow ?e_NoRule ?e_NoText ?e_NoWalker ?e_NotThere ?e_TooMany ?e_Trip ?e_Twice ?pg_Trip ?hd_Trip ?po_Trip ?sa_Trip ?mk_Trip ?kc_Trip ?nf_Trip_book ?nf_Trip_letters ?nf_Trip_holders ?nf_Trip_arrivals ?nf_Trip_passed ?nf_Trip_reached ?nf_Trip_deeds ?xx_NoDeed ?xx_NoMeeting ?xx_NoLetter ?xx_NoWalker ?xx_NotThere ?xx_HasIt ?xx_NoPass ?xx_NoRoom ?ff_f_xc
    (case e_HasIt => k_is)
    (case e_MeetError => k_is)
    (case e_NoBook => k_is)
    (case e_NoClaim => k_is)
    (case e_NoDay => k_is)
    (case e_NoDeed => k_is)
    (case e_NoLetter => k_is)
    (case e_NoMeeting => k_is)
    (case e_NoName => k_is)
    (case e_NoPass => k_is)
    (case e_NoRoom => k_is)
    (case e_NoRow => k_is)
    (case e_NoRule => k_is)
    (case e_NoText => k_is)
    (case e_NoWalker => k_is)
    (case e_NotThere => k_is)
    (case e_TooMany => k_is)
    (case e_Trip => k_is)
    (case e_Twice => k_is)
    (case a__law_purse => k_is)
    (case F__law_purse => refine' L2.fun_mk ?x1 ?y1 ?z1; (case x1 => k_is); (case y1 => k_is); (case z1 => k_is))
    (case a__law_take => k_is)
    (case F__law_take => refine' L2.fun_mk ?x3 ?y3 ?z3; (case x3 => k_is); (case y3 => k_is); (case z3 => k_is))
    (case a__law_far => k_is)
    (case F__law_far => refine' L2.fun_mk ?x5 ?y5 ?z5; (case x5 => k_is); (case y5 => k_is); (case z5 => k_is))
    (case a__law_rooms => k_is)
    (case F__law_rooms => refine' L2.fun_mk ?x7 ?y7 ?z7; (case x7 => k_is); (case y7 => k_is); (case z7 => k_is))
    (case a__law_step => k_is)
    (case F__law_step => refine' L2.fun_mk ?x9 ?y9 ?z9; (case x9 => k_is); (case y9 => k_is); (case z9 => k_is))
    (case a__law_meetings => k_is)
    (case F__law_meetings => refine' L2.fun_mk ?x11 ?y11 ?z11; (case x11 => k_is); (case y11 => k_is); (case z11 => k_is))
    (case a__law_book => k_is)
    (case F__law_book => refine' L2.fun_mk ?x13 ?y13 ?z13; (case x13 => k_is); (case y13 => k_is); (case z13 => k_is))
    (case a__law_time => k_is)
    (case F__law_time => refine' L2.fun_mk ?x15 ?y15 ?z15; (case x15 => k_is); (case y15 => k_is); (case z15 => k_is))
    (case a__law_letter => k_is)
    (case F__law_letter => refine' L2.fun_mk ?x17 ?y17 ?z17; (case x17 => k_is); (case y17 => k_is); (case z17 => k_is))
    (case a__law_letters => k_is)
    (case F__law_letters => refine' L2.fun_mk ?x19 ?y19 ?z19; (case x19 => k_is); (case y19 => k_is); (case z19 => k_is))
    (case a__law_whole => k_is)
    (case F__law_whole => refine' L2.fun_mk ?x21 ?y21 ?z21; (case x21 => k_is); (case y21 => k_is); (case z21 => k_is))
    (case a_is_whole => k_is)
    (case F_is_whole => refine' L2.fun_mk ?x23 ?y23 ?z23; (case x23 => k_is); (case y23 => k_is); (case z23 => k_is))
    (case a_is_within => k_is)
    (case F_is_within => refine' L2.fun_mk ?x25 ?y25 ?z25; (case x25 => k_is); (case y25 => k_is); (case z25 => k_is))
    (case a_is_below => k_is)
    (case F_is_below => refine' L2.fun_mk ?x27 ?y27 ?z27; (case x27 => k_is); (case y27 => k_is); (case z27 => k_is))
    (case a_is_meeting_number => k_is)
    (case F_is_meeting_number => refine' L2.fun_mk ?x29 ?y29 ?z29; (case x29 => k_is); (case y29 => k_is); (case z29 => k_is))
    (case a_is_walker => k_is)
    (case F_is_walker => refine' L2.fun_mk ?x31 ?y31 ?z31; (case x31 => k_is); (case y31 => k_is); (case z31 => k_is))
    (case a_other_at => k_is)
    (case F_other_at => refine' L2.fun_mk ?x33 ?y33 ?z33; (case x33 => k_is); (case y33 => k_is); (case z33 => k_is))
    (case a_are_wholes => k_is)
    (case F_are_wholes => refine' L2.fun_mk ?x35 ?y35 ?z35; (case x35 => k_is); (case y35 => k_is); (case z35 => k_is))
    (case a_is_passing => k_is)
    (case F_is_passing => refine' L2.fun_mk ?x37 ?y37 ?z37; (case x37 => k_is); (case y37 => k_is); (case z37 => k_is))
    (case a_is_drop => k_is)
    (case F_is_drop => refine' L2.fun_mk ?x39 ?y39 ?z39; (case x39 => k_is); (case y39 => k_is); (case z39 => k_is))
    (case a_Trip_takes_room => k_is)
    (case j_Trip_takes_room => k_is)
    (case F_Trip_takes_room => refine' L2.fun_mk ?x42 ?y42 ?z42; (case x42 => k_is); (case y42 => k_is); (case z42 => k_is))
    (case a_Trip_note_arrival => k_is)
    (case j_Trip_note_arrival => k_is)
    (case F_Trip_note_arrival => refine' L2.fun_mk ?x45 ?y45 ?z45; (case x45 => k_is); (case y45 => k_is); (case z45 => k_is))
    (case a_Trip___init__ => k_is)
    (case j_Trip___init__ => k_is)
    (case F_Trip___init__ => refine' L2.fun_mk ?x48 ?y48 ?z48; (case x48 => k_is); (case y48 => k_is); (case z48 => k_is))
    (case a_Trip_bag => k_is)
    (case j_Trip_bag => k_is)
    (case F_Trip_bag => refine' L2.fun_mk ?x51 ?y51 ?z51; (case x51 => k_is); (case y51 => k_is); (case z51 => k_is))
    (case a_Trip_done => k_is)
    (case j_Trip_done => k_is)
    (case F_Trip_done => refine' L2.fun_mk ?x54 ?y54 ?z54; (case x54 => k_is); (case y54 => k_is); (case z54 => k_is))
    (case a_Trip_need_letter => k_is)
    (case j_Trip_need_letter => k_is)
    (case F_Trip_need_letter => refine' L2.fun_mk ?x57 ?y57 ?z57; (case x57 => k_is); (case y57 => k_is); (case z57 => k_is))
    (case a_Trip_need_drop => k_is)
    (case j_Trip_need_drop => k_is)
    (case F_Trip_need_drop => refine' L2.fun_mk ?x60 ?y60 ?z60; (case x60 => k_is); (case y60 => k_is); (case z60 => k_is))
    (case a_Trip_need_passing => k_is)
    (case j_Trip_need_passing => k_is)
    (case F_Trip_need_passing => refine' L2.fun_mk ?x63 ?y63 ?z63; (case x63 => k_is); (case y63 => k_is); (case z63 => k_is))
    (case a_Trip_pass_on => k_is)
    (case j_Trip_pass_on => k_is)
    (case F_Trip_pass_on => refine' L2.fun_mk ?x66 ?y66 ?z66; (case x66 => k_is); (case y66 => k_is); (case z66 => k_is))
    (case a_Trip_do => k_is)
    (case j_Trip_do => k_is)
    (case F_Trip_do => refine' L2.fun_mk ?x69 ?y69 ?z69; (case x69 => k_is); (case y69 => k_is); (case z69 => k_is))
    (case a__law_any => k_is)
    (case F__law_any => refine' L2.fun_mk ?x71 ?y71 ?z71; (case x71 => k_is); (case y71 => k_is); (case z71 => k_is))
    (case a__law_does => k_is)
    (case F__law_does => refine' L2.fun_mk ?x73 ?y73 ?z73; (case x73 => k_is); (case y73 => k_is); (case z73 => k_is))
    (case a__law_thing_here => k_is)
    (case F__law_thing_here => refine' L2.fun_mk ?x75 ?y75 ?z75; (case x75 => k_is); (case y75 => k_is); (case z75 => k_is))
    (case a__law_is_deed => k_is)
    (case F__law_is_deed => refine' L2.fun_mk ?x77 ?y77 ?z77; (case x77 => k_is); (case y77 => k_is); (case z77 => k_is))
    (case a_law => k_is)
    (case F_law => refine' L2.fun_mk ?x79 ?y79 ?z79; (case x79 => k_is); (case y79 => k_is); (case z79 => k_is))
    (case z_ValueError => k_is)
    (case z_all => k_is)
    (case z_bool => k_is)
    (case z_enumerate => k_is)
    (case z_int => k_is)
    (case z_isinstance => k_is)
    (case z_len => k_is)
    (case z_list => k_is)
    (case z_max => k_is)
    (case z_min => k_is)
    (case z_range => k_is)
    (case z_sorted => k_is)
    (case z_tuple => k_is)
    (case pg_Trip => k_is)
    (case hd_Trip => k_is)
    (case po_Trip => k_is)
    (case sa_Trip => k_is)
    (case mk_Trip => k_is)
    (case kc_Trip => k_is)
    (case nf_Trip_book => k_is)
    (case nf_Trip_letters => k_is)
    (case nf_Trip_holders => k_is)
    (case nf_Trip_arrivals => k_is)
    (case nf_Trip_passed => k_is)
    (case nf_Trip_reached => k_is)
    (case nf_Trip_deeds => k_is)
    (case xx_NoDeed => kernel_rfl)
    (case xx_NoMeeting => kernel_rfl)
    (case xx_NoLetter => kernel_rfl)
    (case xx_NoWalker => kernel_rfl)
    (case xx_NotThere => kernel_rfl)
    (case xx_HasIt => kernel_rfl)
    (case xx_NoPass => kernel_rfl)
    (case xx_NoRoom => kernel_rfl)
    (case ff_f_xc => kernel_rfl)

