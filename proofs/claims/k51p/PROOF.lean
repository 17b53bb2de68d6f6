import PyProof.Rows.All
import Wide.All
import OpenK.AllK
import Wide.FinOn
import Lean
import PyProof.EqAt
import PyProof.EqKinds
import PyProof.TupleCall
import KE.KTryMore
import PyProof.NsDelKeeps
import KE.KIsAll
import PySem.Challenge.RW_satchelmeet_k51_halves_and_all_met
set_option Elab.async false
set_option linter.all false
set_option maxRecDepth 100000
namespace L2
open PySem PySem.Spec PyProof.Rows
abbrev Key := Sum Int Str
def keyIs : Key → Value → Bool
  | .inl k, v => Value.isInt k v
  | .inr x, v => Value.isStrOf x v
def keyH (w : World) : Key → Int
  | .inl k => hashInt k
  | .inr x => hashStr w x
theorem keyIs_shape : ∀ {k : Key} {v : Value}, keyIs k v = true → (∃ i t, k = Sum.inl i ∧ v = Value.int i t) ∨ (∃ x t, k = Sum.inr x ∧ v = Value.str x t)
  | .inl i, v, h => by
    obtain ⟨t, e⟩ := Value.isInt_shape (k := i) (v := v) h
    exact .inl ⟨i, t, rfl, e⟩
  | .inr x, v, h => by
    obtain ⟨t, e⟩ := Value.isStrOf_shape (x := x) (v := v) h
    exact .inr ⟨x, t, rfl, e⟩
theorem keyIs_int (i : Int) (t : Tok) : keyIs (.inl i) (.int i t) = true := by simp [keyIs, Value.isInt]
theorem keyIs_str (x : Str) (t : Tok) : keyIs (.inr x) (.str x t) = true := by simp [keyIs, Value.isStrOf]
theorem key_ll (a b : Int) : decide ((Sum.inl a : Key) = Sum.inl b) = (a == b) := by
  by_cases e : a = b
  · subst e; simp
  · have h : ¬ (Sum.inl a : Key) = Sum.inl b := fun q => e (Sum.inl.inj q)
    rw [decide_eq_false h]
    exact (beq_eq_false_iff_ne.mpr e).symm
theorem key_rr (a b : Str) : decide ((Sum.inr a : Key) = Sum.inr b) = decide (a = b) := by
  by_cases e : a = b
  · subst e; simp
  · have h : ¬ (Sum.inr a : Key) = Sum.inr b := fun q => e (Sum.inr.inj q)
    rw [decide_eq_false h, decide_eq_false e]
theorem key_lr (a : Int) (b : Str) : decide ((Sum.inl a : Key) = Sum.inr b) = false := decide_eq_false (fun q => nomatch q)
theorem key_rl (a : Str) (b : Int) : decide ((Sum.inr a : Key) = Sum.inl b) = false := decide_eq_false (fun q => nomatch q)
def mixKind (prog : Program) (w : World) : PySem.KeyKind prog w Key where
  is := keyIs
  hash := keyH w
  inj := fun v a b ha hb => by
    rcases keyIs_shape ha with ⟨i, t, rfl, rfl⟩ | ⟨x, t, rfl, rfl⟩
    · rcases keyIs_shape hb with ⟨j, u, rfl, e⟩ | ⟨y, u, rfl, e⟩
      · injection e with e1 _; rw [e1]
      · exact nomatch e
    · rcases keyIs_shape hb with ⟨j, u, rfl, e⟩ | ⟨y, u, rfl, e⟩
      · exact nomatch e
      · injection e with e1 _; rw [e1]
  byValue := fun k v h => by
    rcases keyIs_shape h with ⟨i, t, rfl, rfl⟩ | ⟨x, t, rfl, rfl⟩ <;> rfl
  pyHash := fun hv h => by
    rcases keyIs_shape hv with ⟨i, t, rfl, rfl⟩ | ⟨x, t, rfl, rfl⟩
    · exact wpAny_pyHash_int h
    · exact wpAny_pyHash_str h
  eqBool := fun hu hv h => by
    rcases keyIs_shape hu with ⟨i, t, rfl, rfl⟩ | ⟨x, t, rfl, rfl⟩
    · rcases keyIs_shape hv with ⟨j, u, rfl, rfl⟩ | ⟨y, u, rfl, rfl⟩
      · rw [key_ll] at h; exact wpAny_eqBool_int h
      · rw [key_lr] at h; exact SeqAt.EqAt.int_str i t y u _ _ _ _ h
    · rcases keyIs_shape hv with ⟨j, u, rfl, rfl⟩ | ⟨y, u, rfl, rfl⟩
      · rw [key_rl] at h; exact SeqAt.EqAt.str_int x t j u _ _ _ _ h
      · rw [key_rr] at h; exact wpAny_eqBool_str h
  «strs» := fun k x t v h => by
    rcases keyIs_shape h with ⟨i, u, rfl, e⟩ | ⟨y, u, rfl, e⟩
    · exact nomatch e
    · injection e with e1 _
      subst e1
      cases v <;> rfl
theorem mixKind_int (prog : Program) (w : World) (i : Int) (t : Tok) : (mixKind prog w).is (.inl i) (.int i t) = true := keyIs_int i t
theorem mixKind_str (prog : Program) (w : World) (x : Str) (t : Tok) : (mixKind prog w).is (.inr x) (.str x t) = true := keyIs_str x t
end L2
namespace L2
open PySem PySem.Spec PyProof.Rows
inductive V where
  | non | bl (b : Bool) | int (i : Int) | str (x : Str) | byt (b : Array UInt8) | flt (b : UInt64) | ref (a : Addr) | ty (n : String)
  deriving DecidableEq
def RelV : V → Value → Prop
  | .non, u => u = Value.none
  | .bl b, u => u = Value.bool b
  | .int i, u => ∃ t, u = Value.int i t
  | .str x, u => ∃ t, u = Value.str x t
  | .byt b, u => ∃ t, u = Value.bytes b t
  | .flt b, u => ∃ t, u = Value.float b t
  | .ref a, u => u = Value.ref a
  | .ty n, u => u = Value.type n
abbrev Vals : List V → List Value → Prop := Paired RelV
theorem Vals.length {xs : List V} {us : List Value} (r : Vals xs us) : xs.length = us.length := Paired.length r
theorem Vals.get : ∀ {xs : List V} {us : List Value} {i : Nat} {x : V}, Vals xs us → xs[i]? = some x → ∃ u, us[i]? = some u ∧ RelV x u
  | _, _, _, _, .nil, e => by simp at e
  | _, _, 0, _, .cons r _, e => by simp at e; subst e; exact ⟨_, rfl, r⟩
  | _, _, i + 1, x, .cons _ t, e => by
    obtain ⟨u, h1, h2⟩ := Vals.get (i := i) (x := x) t (by simpa using e)
    exact ⟨u, by simpa using h1, h2⟩
theorem Vals.set {x : V} {u : Value} (r : RelV x u) : ∀ {xs : List V} {us : List Value} (i : Nat), Vals xs us → Vals (xs.set i x) (us.set i u)
  | _, _, _, .nil => .nil
  | _, _, 0, .cons _ t => .cons r t
  | _, _, i + 1, .cons q t => .cons q (Vals.set r i t)
theorem Vals.append : ∀ {xs ys : List V} {us ws : List Value}, Vals xs us → Vals ys ws → Vals (xs ++ ys) (us ++ ws)
  | _, _, _, _, .nil, s => s
  | _, _, _, _, .cons r t, s => .cons r (Vals.append t s)
theorem Vals.take : ∀ {xs : List V} {us : List Value} (n : Nat), Vals xs us → Vals (xs.take n) (us.take n)
  | _, _, 0, _ => .nil
  | _, _, _ + 1, .nil => .nil
  | _, _, n + 1, .cons r t => .cons r (Vals.take n t)
theorem Vals.none_of : ∀ {xs : List V} {us : List Value} {i : Nat}, Vals xs us → xs[i]? = none → us[i]? = none := fun {xs us i} r e => by
  have h1 := r.length
  have h2 : xs.length ≤ i := List.getElem?_eq_none_iff.mp e
  exact List.getElem?_eq_none_iff.mpr (by omega)
def RelO : Option V → Option Value → Prop
  | some v, some u => RelV v u
  | none, none => True
  | _, _ => False
def KV {κ : Type} : List (κ × V) → List (κ × Value) → Prop := Paired fun (p : κ × V) (q : κ × Value) => p.1 = q.1 ∧ RelV p.2 q.2
def kV : Key → V
  | .inl i => .int i
  | .inr x => .str x
inductive HO where
    | lst (xs : List V)
    | tup (xs : List V)
    | dK (kvs : List (Key × V)) | dT (kvs : List (List Key × V))
    | set (S : Int → Bool) (n : Nat)
    | ins (C dx : Addr) (fs : List (Str × V))
    | own (x : Addr)
    | xd (fs : List (Str × V))
    | met (f x : Addr)
    | rng (lo hi : Int)
    | frz (o : Obj) (u : HO)
    | tbl (ps : Array Value)
    | ext (φ : Heap → Prop)
abbrev Hp := Addr → Option HO
def upd (H : Hp) (a : Addr) (o : HO) : Hp := fun b => if b = a then some o else H b
theorem upd_same {H : Hp} {a : Addr} {o : HO} : upd H a o a = some o := by unfold upd; rw [if_pos rfl]
theorem upd_ne {H : Hp} {a b : Addr} {o : HO} (h : b ≠ a) : upd H a o b = H b := by unfold upd; rw [if_neg h]
theorem ne_of {H : Hp} {a b : Addr} {o u : HO} (h : H a = some o) (h' : H b = some u) (d : o ≠ u) : a ≠ b := by
  intro e; subst e; rw [h] at h'; exact d (Option.some.inj h')
theorem ne_of_none {H : Hp} {a b : Addr} {o : HO} (h : H a = some o) (h' : H b = none) : a ≠ b := by
  intro e; subst e; rw [h] at h'; cases h'
section
variable (P : Program) (w : World)
def ObjOk (H : Hp) (h : Heap) (a : Addr) : HO → Prop
  | .lst xs => xs.length ≤ sizeLine ∧ ∃ (its : List Value) (n : Nat), Vals xs its ∧ h.get? a = some { cls := .type "list", data := .seq its.toArray n }
  | .tup xs => xs.length ≤ sizeLine ∧ ∃ its : List Value, Vals xs its ∧ IsTup h a its.toArray
  | .dK kvs => kvs.length ≤ sizeLine ∧ (a == sysModules) = false ∧ ∃ vs, KV kvs vs ∧ h.DictOf (mixKind P w) a vs
  | .dT kvs => kvs.length ≤ sizeLine ∧ (a == sysModules) = false ∧ ∃ xs : List (List Key × Addr × Value),
      Paired (fun (p : List Key × V) (q : List Key × Addr × Value) => p.1 = q.1 ∧ H q.2.1 = some (.tup (p.1.map kV)) ∧ RelV p.2 q.2.2) kvs xs ∧
      ∃ o es ep, h.get? a = some o ∧ o.ExactDict ∧ o.data = .dict es ep ∧ es.toList = xs.map (entryOfKey (tupleKind (mixKind P w))) ∧ (xs.map (·.1)).Nodup
  | .set S n => h.SetOf (intKind P w) a S n
  | .ins C dx fs => H dx = some (.own a) ∧ fs.length ≤ 1000 ∧ dx ≠ a ∧ h.get? a = some (PySem.W.instObj C dx) ∧
      ∃ mA, h.Ns1 dx mA ∧ (∀ f, RelO (fs.lookup f) (mA f)) ∧ PySem.Within mA (fs.map (·.1))
  | .own _ => ∃ o, h.get? a = some o
  | .xd fs => ∃ mA, h.Ns1 a mA ∧ ∀ f, RelO (fs.lookup f) (mA f)
  | .rng lo hi => ∃ t u v, h.get? a = some { cls := .type "range", data := .fields #[.int lo t, .int hi u, .int 1 v] }
  | .frz o u => h.get? a = some o ∧ ObjOk H h a u
  | .tbl ps => h.get? a = some { cls := .none, data := .fields ps }
  | .met f x => h.get? a = some (PySem.W.methodObj (.ref f) (.ref x))
  | .ext φ => φ h ∧ (∃ o, h.get? a = some o) ∧ ∀ h1 h2 : Heap, φ h1 → (∀ o, h1.get? a = some o → h2.get? a = some o) → φ h2
def HOk (H : Hp) (h : Heap) : Prop := ∀ a o, H a = some o → ObjOk P w H h a o
end
section
variable {P : Program} {w : World} {H H' : Hp} {h h' : Heap} {a : Addr} {o : HO}
theorem ObjOk.lt (x : ObjOk P w H h a o) : a < h.objs.size := by
  cases o with
  | lst xs => obtain ⟨_, _, _, _, e⟩ := x; exact Heap.lt_size e
  | tup xs => obtain ⟨_, _, _, p⟩ := x; exact p.lt
  | dK kvs => obtain ⟨_, _, _, _, o, _, _, e, _⟩ := x; exact Heap.lt_size e
  | dT kvs => obtain ⟨_, _, _, _, o, _, _, e, _⟩ := x; exact Heap.lt_size e
  | set S n => obtain ⟨o, _, _, _, e, _⟩ := x; exact Heap.lt_size e
  | ins C dx fs => obtain ⟨_, _, _, e, _⟩ := x; exact Heap.lt_size e
  | own y => obtain ⟨_, e⟩ := x; exact Heap.lt_size e
  | xd fs => obtain ⟨_, ⟨_, _, _, e, _⟩, _⟩ := x; exact Heap.lt_size e
  | rng lo hi => obtain ⟨_, _, _, e⟩ := x; exact Heap.lt_size e
  | frz ob u => obtain ⟨e, _⟩ := x; exact Heap.lt_size e
  | tbl ps => exact Heap.lt_size (show h.get? a = some _ from x)
  | met f y => exact Heap.lt_size (show h.get? a = some _ from x)
  | ext φ => obtain ⟨_, ⟨_, e⟩, _⟩ := x; exact Heap.lt_size e
theorem Paired.mapP {α β : Type} {F G : α → β → Prop} : ∀ {l₁ : List α} {l₂ : List β}, Paired F l₁ l₂ → (∀ a b, F a b → G a b) → Paired G l₁ l₂
  | _, _, .nil, _ => .nil
  | _, _, .cons r t, f => .cons (f _ _ r) (Paired.mapP t f)
theorem ObjOk.stay (x : ObjOk P w H h a o) (k : ∀ b u, (b = a ∨ H b = some (.own a)) → h.get? b = some u → h'.get? b = some u)
    (ho : ∀ b, H b = some (.own a) → H' b = some (.own a)) (ht : ∀ b xs, H b = some (.tup xs) → H' b = some (.tup xs)) : ObjOk P w H' h' a o := by
  induction o with
  | lst xs => obtain ⟨z, its, n, r, e⟩ := x; exact ⟨z, its, n, r, k _ _ (.inl rfl) e⟩
  | tup xs => obtain ⟨z, its, r, ob, e, c⟩ := x; exact ⟨z, its, r, ob, k _ _ (.inl rfl) e, c⟩
  | dK kvs => obtain ⟨z, y, vs, r, ob, es, ep, e, c⟩ := x; exact ⟨z, y, vs, r, ob, es, ep, k _ _ (.inl rfl) e, c⟩
  | dT kvs =>
    obtain ⟨z, y, xs, r, ob, es, ep, e, c⟩ := x
    exact ⟨z, y, xs, Paired.mapP r fun p q z => ⟨z.1, ht _ _ z.2.1, z.2.2⟩, ob, es, ep, k _ _ (.inl rfl) e, c⟩
  | set S n => obtain ⟨ob, es, ep, t, e, c⟩ := x; exact ⟨ob, es, ep, t, k _ _ (.inl rfl) e, c⟩
  | ins C dx fs =>
    obtain ⟨d, z, ne, e, mA, ⟨od, es, ep, e2, c⟩, r⟩ := x
    exact ⟨ho _ d, z, ne, k _ _ (.inl rfl) e, mA, ⟨od, es, ep, k _ _ (.inr d) e2, c⟩, r⟩
  | own y => obtain ⟨ob, e⟩ := x; exact ⟨ob, k _ _ (.inl rfl) e⟩
  | xd fs => obtain ⟨mA, ⟨od, es, ep, e, c⟩, r⟩ := x; exact ⟨mA, ⟨od, es, ep, k _ _ (.inl rfl) e, c⟩, r⟩
  | rng lo hi => obtain ⟨t, u, v, e⟩ := x; exact ⟨t, u, v, k _ _ (.inl rfl) e⟩
  | frz ob u ih => obtain ⟨e, q⟩ := x; exact ⟨k _ _ (.inl rfl) e, ih q⟩
  | tbl ps =>
    have e : h.get? a = some { cls := .none, data := .fields ps } := x
    show h'.get? a = some { cls := .none, data := .fields ps }
    exact k a _ (.inl rfl) e
  | met f y =>
    have e : h.get? a = some (PySem.W.methodObj (.ref f) (.ref y)) := x
    show h'.get? a = some (PySem.W.methodObj (.ref f) (.ref y))
    exact k a _ (.inl rfl) e
  | ext φ => obtain ⟨p, ⟨o, e⟩, st⟩ := x; exact ⟨st _ _ p fun o q => k _ _ (.inl rfl) q, ⟨o, k _ _ (.inl rfl) e⟩, st⟩
theorem HOk.lt (x : HOk P w H h) (e : H a = some o) : a < h.objs.size := (x a o e).lt
theorem HOk.fresh (x : HOk P w H h) (e : h.objs.size ≤ a) : H a = none := by
  cases q : H a with
  | none => rfl
  | some u => exact absurd (Nat.lt_of_lt_of_le (x.lt q) e) (Nat.lt_irrefl _)
theorem HOk.kept (x : HOk P w H h) (k : ∀ b u, h.get? b = some u → h'.get? b = some u) : HOk P w H h' := fun a o e =>
  (x a o e).stay (fun b u _ q => k b u q) (fun _ q => q) fun _ _ q => q
theorem HOk.laid (x : HOk P w H h) (k : ∀ b u, h.get? b = some u → h'.get? b = some u) (hp : h.objs.size ≤ a) (new : ObjOk P w (upd H a o) h' a o) : HOk P w (upd H a o) h' := fun b u e => by
  have hn := x.fresh hp
  by_cases hb : b = a
  · subst hb; rw [upd_same] at e; cases e; exact new
  · rw [upd_ne hb] at e
    exact (x b u e).stay (fun c v _ q => k c v q) (fun c q => by rw [upd_ne (ne_of_none q hn)]; exact q) fun c xs q => by rw [upd_ne (ne_of_none q hn)]; exact q
end
def Rd (H : Hp) (a : Addr) (u : HO) : Prop := H a = some u ∨ ∃ o, H a = some (.frz o u)
theorem Rd.of {H : Hp} {a : Addr} {u : HO} (h : H a = some u) : Rd H a u := .inl h
theorem Rd.ok {P : Program} {w : World} {H : Hp} {h : Heap} {a : Addr} {u : HO} (r : Rd H a u) (x : HOk P w H h) : ObjOk P w H h a u := by
  rcases r with r | ⟨o, r⟩
  · exact x a u r
  · obtain ⟨_, q⟩ := x a _ r
    exact q
def Mut : Option HO → Prop
  | some (.lst _) => True
  | some (.dK _) => True
  | some (.dT _) => True
  | some (.set _ _) => True
  | some (.ins _ _ _) => True
  | some (.ext _) => True
  | _ => False
section
variable {P : Program} {w : World} {H : Hp} {h h' : Heap} {x e : Addr} {o' : HO}
theorem HOk.write (ok : HOk P w H h) (mu : Mut (H x)) (he : e = x ∨ H e = some (.own x)) (k : ∀ b u, b ≠ e → h.get? b = some u → h'.get? b = some u) (heo : ∃ u, h'.get? e = some u)
    (new : ObjOk P w (upd H x o') h' x o') : HOk P w (upd H x o') h' := fun b u q => by
  have nown : ∀ c y, H c = some (.own y) → c ≠ x := fun c y r z => by subst z; rw [r] at mu; exact mu
  have ntup : ∀ c xs, H c = some (.tup xs) → c ≠ x := fun c xs r z => by subst z; rw [r] at mu; exact mu
  by_cases hb : b = x
  · subst hb; rw [upd_same] at q; cases q; exact new
  · rw [upd_ne hb] at q
    by_cases hbe : b = e
    · have q' : H b = some (.own x) := by
        rcases he with z | z
        · exact absurd (hbe.trans z) hb
        · rw [hbe]; exact z
      rw [q] at q'; cases q'
      obtain ⟨v, hv⟩ := heo
      exact ⟨v, by rw [hbe]; exact hv⟩
    · refine (ok b u q).stay (fun c v hc r => k c v ?_ r) (fun c r => by rw [upd_ne (nown c b r)]; exact r) fun c xs r => by rw [upd_ne (ntup c xs r)]; exact r
      rcases hc with rfl | hc
      · exact hbe
      · rintro rfl
        rcases he with z | z
        · exact nown c b hc z
        · rw [hc] at z; cases z; exact hb rfl
end
structure Un (fs ex : List Addr) (H H' : Hp) (h h' : Heap) : Prop where
  keep : ∀ b o, h.get? b = some o → H b = none → b ∉ fs → b ∉ ex → h'.get? b = some o
  slot : ∀ b o, h.get? b = some o → H b = none → b ∈ fs → b ∉ ex → ∃ sl, h'.get? b = some { o with slots := sl }
  free : ∀ b o, h.get? b = some o → H b = none → b ∉ ex → H' b = none
  there : ∀ b o, h.get? b = some o → b ∉ ex → ∃ o', h'.get? b = some o'
  tups : ∀ b xs, H b = some (.tup xs) → H' b = some (.tup xs)
  frzs : ∀ b o u, H b = some (.frz o u) → H' b = some (.frz o u)
  tbls : ∀ b ps, H b = some (.tbl ps) → ∃ more, H' b = some (.tbl (ps ++ more))
section
variable {fs fs' ex ex' : List Addr} {H H1 H2 : Hp} {h h1 h2 h' : Heap} {a x e : Addr} {o : HO}
theorem Un.any (u : Un fs ex H H1 h h1) {b : Addr} {ob : Obj} (q : h.get? b = some ob) (n : H b = none) (hx : b ∉ ex) : ∃ sl, h1.get? b = some { ob with slots := sl } := by
  by_cases hb : b ∈ fs
  · exact u.slot b ob q n hb hx
  · exact ⟨ob.slots, u.keep b ob q n hb hx⟩
theorem Un.trans (a : Un fs ex H H1 h h1) (b : Un fs ex H1 H2 h1 h2) : Un fs ex H H2 h h2 where
  keep := fun c ob q n hc hx => b.keep c ob (a.keep c ob q n hc hx) (a.free c ob q n hx) hc hx
  slot := fun c ob q n hc hx => by
    obtain ⟨sl, e1⟩ := a.slot c ob q n hc hx
    obtain ⟨sl', e2⟩ := b.slot c _ e1 (a.free c ob q n hx) hc hx
    exact ⟨sl', e2⟩
  free := fun c ob q n hx => by
    obtain ⟨o', e1⟩ := a.there c ob q hx
    exact b.free c o' e1 (a.free c ob q n hx) hx
  there := fun c ob q hx => by
    obtain ⟨o', e1⟩ := a.there c ob q hx
    exact b.there c o' e1 hx
  tups := fun c xs q => b.tups c xs (a.tups c xs q)
  frzs := fun c ob xs q => b.frzs c ob xs (a.frzs c ob xs q)
  tbls := fun c ps q => by
    obtain ⟨m1, e1⟩ := a.tbls c ps q
    obtain ⟨m2, e2⟩ := b.tbls c _ e1
    exact ⟨m1 ++ m2, by rw [e2, Array.append_assoc]⟩
theorem Un.kept (k : ∀ b u, h.get? b = some u → h'.get? b = some u) : Un fs ex H H h h' :=
  ⟨fun b ob q _ _ _ => k b ob q, fun b ob q _ _ _ => ⟨ob.slots, k b ob q⟩, fun _ _ _ n _ => n, fun b ob q _ => ⟨ob, k b ob q⟩, fun _ _ q => q, fun _ _ _ q => q, fun _ ps q => ⟨#[], by rw [q]; simp⟩⟩
theorem Un.refl : Un fs ex H H h h := Un.kept fun _ _ q => q
theorem Un.laid (k : ∀ b u, h.get? b = some u → h'.get? b = some u) (hp : h.objs.size ≤ a) (hn : H a = none) : Un fs ex H (upd H a o) h h' where
  keep := fun b u q _ _ _ => k b u q
  slot := fun b u q _ _ _ => ⟨u.slots, k b u q⟩
  free := fun b u q n _ => by rw [upd_ne (Nat.ne_of_lt (Nat.lt_of_lt_of_le (Heap.lt_size q) hp))]; exact n
  there := fun b u q _ => ⟨u, k b u q⟩
  tups := fun b xs q => by rw [upd_ne (ne_of_none q hn)]; exact q
  frzs := fun b u xs q => by rw [upd_ne (ne_of_none q hn)]; exact q
  tbls := fun b ps q => ⟨#[], by rw [upd_ne (ne_of_none q hn), q]; simp⟩
theorem Un.write (mu : Mut (H x)) (he : e = x ∨ H e = some (.own x)) (k : ∀ b u, b ≠ e → h.get? b = some u → h'.get? b = some u) (heo : ∃ u, h'.get? e = some u) : Un fs ex H (upd H x o) h h' := by
  have hx : ∀ b, H b = none → b ≠ x := fun b n z => by subst z; rw [n] at mu; exact mu
  have hb : ∀ b, H b = none → b ≠ e := fun b n z => by
    subst z
    rcases he with r | r
    · exact hx b n r
    · rw [n] at r; cases r
  have hm : ∀ b u, H b = some u → ¬ Mut (some u) → b ≠ x := fun b u q nm z => by subst z; rw [q] at mu; exact nm mu
  refine ⟨fun b u q n _ _ => k b u (hb b n) q, fun b u q n _ _ => ⟨u.slots, k b u (hb b n) q⟩, fun b u q n _ => by rw [upd_ne (hx b n)]; exact n, fun b u q _ => ?_,
    fun b xs q => by rw [upd_ne (hm b _ q fun z => z)]; exact q, fun b u xs q => by rw [upd_ne (hm b _ q fun z => z)]; exact q, fun b ps q => ⟨#[], by rw [upd_ne (hm b _ q fun z => z), q]; simp⟩⟩
  by_cases hbe : b = e
  · subst hbe; exact heo
  · exact ⟨u, k b u hbe q⟩
theorem Un.mono (u : Un fs ex H H1 h h1) (hs : ∀ b ∈ fs, b ∈ fs') (hx : ∀ b ∈ ex, b ∈ ex') : Un fs' ex' H H1 h h1 :=
  ⟨fun b ob q n hb he => u.keep b ob q n (fun z => hb (hs b z)) fun z => he (hx b z), fun _ _ q n _ he => u.any q n fun z => he (hx _ z), fun b ob q n he => u.free b ob q n fun z => he (hx b z), fun b ob q he => u.there b ob q fun z => he (hx b z), u.tups, u.frzs, u.tbls⟩
end
def trk (h : Heap) (H : Hp) : List Addr := (List.range h.objs.size).filter fun a => (H a).isSome
def hidT (h : Heap) (H : Hp) : Heap := PySem.W.hideAll h (trk h H)
theorem hidT_size (h : Heap) (H : Hp) : (hidT h H).objs.size = h.objs.size := PySem.W.hideAll_size _ _
theorem hidT_get {h : Heap} {H : Hp} {b : Addr} {o : Obj} (e : h.get? b = some o) (n : H b = none) : (hidT h H).get? b = some o :=
  PySem.W.hideAll_get _ e fun hm => by
    have q : (H b).isSome = true := (List.mem_filter.mp hm).2
    rw [n] at q; simp at q
theorem of_hidT {h : Heap} {H : Hp} {b : Addr} {o : Obj} (e : (hidT h H).get? b = some o) : h.get? b = some o ∧ H b = none := by
  have e' : h.get? b = some o := PySem.W.of_hideAll (trk h H) e
  refine ⟨e', ?_⟩
  cases q : H b with
  | none => rfl
  | some x =>
    have hm : b ∈ trk h H := List.mem_filter.mpr ⟨List.mem_range.mpr (Heap.lt_size e'), by simp [q]⟩
    have z : (hidT h H).get? b = none := PySem.W.hideAll_none (trk h H) hm
    rw [z] at e; cases e
def allNews (g h : Heap) (L : Addr) : List (Addr × Obj) := (List.range h.objs.size).filterMap fun a => if a = L ∨ (g.get? a).isSome = true then none else (h.get? a).map fun o => (a, o)
theorem mem_allNews {g h : Heap} {L a : Addr} {o : Obj} (h1 : a ≠ L) (h2 : g.get? a = none) (h3 : h.get? a = some o) : (a, o) ∈ allNews g h L :=
  List.mem_filterMap.mpr ⟨a, List.mem_range.mpr (Heap.lt_size h3), by simp [h1, h2, h3]⟩
theorem of_mem_allNews {g h : Heap} {L : Addr} {p : Addr × Obj} (hp : p ∈ allNews g h L) : p.1 ≠ L ∧ g.get? p.1 = none ∧ h.get? p.1 = some p.2 := by
  obtain ⟨b, _, e⟩ := List.mem_filterMap.mp hp
  split at e
  · cases e
  · rename_i hn
    cases q : h.get? b with
    | none => rw [q] at e; simp at e
    | some u =>
      rw [q] at e
      simp only [Option.map_some, Option.some.injEq] at e
      subst e
      refine ⟨fun z => hn (.inl z), ?_, q⟩
      show g.get? b = none
      cases r : g.get? b with
      | none => rfl
      | some v => exact (hn (.inr (by simp [r]))).elim
def rest (g h : Heap) (L d : Addr) : List (Addr × Obj) := (allNews g h L).filter fun p => decide (p.1 ≠ d)
theorem news_all {g h : Heap} {L : Addr} : News g L h (allNews g h L) := fun p hp => let ⟨a, b, c⟩ := of_mem_allNews hp; ⟨c, a, b⟩
end L2
namespace L2
open PySem PySem.Spec PyProof.Rows
structure Mod (K : PySem.W.Frag) (mg : Str → Option Value) (base : Heap) : Prop where
  kin : K.In base
  glob : base.Ns mainGlobals mg
  blt : ∃ mb, base.Ns builtinsNs mb ∧ ∀ x : Str, x ≠ "__name__" → mb x = bootBuiltins x
  nolimit : base.NoLimit
structure Cx where
  prog : Program
  w : World
  K : PySem.W.Frag
  mg : Str → Option Value
  base : Heap
  A : Around
  N : List Str
  s₀ : Shared
  H₀ : Hp
  env : Env
  outer : List Env
  stack : List Env
  ex : List Addr
  fn : Str → Bool
  calm : Bool
  pn : List (Addr × Obj)
  xe : Value → Shared → Prop
def frs (l : List Env) : List Addr := l.filterMap (·.frame)
abbrev Cx.fs (X : Cx) : List Addr := frs X.outer
def Vis (sc : Scope) (x : Str) : Prop := sc.names.lookup x = some .local ∨ sc.names.lookup x = some .cell ∨ sc.names.lookup x = some .free
def Loc (sc : Scope) (x : Str) : Prop := sc.names.lookup x = some .local ∨ sc.names.lookup x = some .cell
def Look (env : Env) (h : Heap) (m : Str → Option Value) (x : Str) (u : Value) : Prop :=
  (env.kindOf x = some .local ∧ m x = some u) ∨ ((env.kindOf x = some .cell ∨ env.kindOf x = some .free) ∧ ∃ c, env.cells.lookup x = some c ∧ h.IsCell c (some u))
structure Cx.Ok (X : Cx) : Prop where
  mod : Mod X.K X.mg X.base
  kind : X.env.scope.kind = .function
  glob : X.env.globals = mainGlobals
  blt : X.env.builtins = builtinsNs
  above : X.s₀.heap.objs.size ≤ X.env.locals
  inj : ∀ x y c, X.env.cells.lookup x = some c → X.env.cells.lookup y = some c → x = y
  has : ∀ x, (X.env.kindOf x = some .cell ∨ X.env.kindOf x = some .free) → ∃ c, X.env.cells.lookup x = some c
  cab : ∀ x c, X.fn x = true → X.env.cells.lookup x = some c → X.s₀.heap.objs.size ≤ c
  hd : X.calm = true → X.A.handled = none
  frames : X.A.frames = some X.stack
  stk : X.stack = X.outer ∨ (X.stack = X.env :: X.outer ∧ X.env.frame = some X.env.locals)
  exf : ∀ b ∈ X.ex, b ≠ X.env.locals ∧ ∀ x c, X.env.cells.lookup x = some c → c ≠ b
  bs : ∀ b o, X.base.get? b = some o → X.s₀.heap.get? b = some o ∧ X.H₀ b = none
  bsz : X.base.objs.size ≤ X.s₀.heap.objs.size
  noex : ∀ b o, X.base.get? b = some o → b ∉ X.ex
  exfs : ∀ b ∈ X.ex, b ∉ X.fs
  funs : X.s₀.heap.FunFrames X.base X.outer
  frf : ∀ b ∈ X.fs, X.H₀ b = none
structure Inv (X : Cx) (pins : List (Addr × Obj)) (σ : List (Option V)) (H : Hp) (s : Shared) : Prop where
  ok : X.Ok
  os : s.os = X.s₀.os
  bare : AllBare s.gens
  base : Un X.fs X.ex X.H₀ H X.s₀.heap s.heap
  loc : ∃ m, s.heap.Ns X.env.locals m ∧ ∀ (i : Nat) (x : Str) (v : V), X.N[i]? = some x → σ[i]? = some (some v) → Vis X.env.scope x → ∃ u, RelV v u ∧ Look X.env s.heap m x u
  cell : ∀ x c, X.env.cells.lookup x = some c → ∃ v, s.heap.IsCell c v
  free : H X.env.locals = none
  freeC : ∀ x c, X.env.cells.lookup x = some c → H c = none
  pin : ∀ p ∈ X.pn ++ pins, s.heap.get? p.1 = some p.2 ∧ H p.1 = none ∧ p.1 ≠ X.env.locals ∧ p.1 ∉ X.fs ∧ ∀ v, p.2.data ≠ .cell v
  hok : HOk X.prog X.w H s.heap
  len : σ.length = X.N.length
section
variable {X : Cx} {pins : List (Addr × Obj)} {σ : List (Option V)} {H H' : Hp} {s : Shared} {h' : Heap}
theorem Cx.Ok.nofr (ok : X.Ok) {b : Addr} {o : Obj} (e : X.base.get? b = some o) : b ∉ X.fs := fun hb => by
  have := (ok.funs.mem hb).1
  rw [e] at this; cases this
theorem Inv.bs (I : Inv X pins σ H s) : ∀ b o, X.base.get? b = some o → s.heap.get? b = some o ∧ H b = none := fun b o e =>
  ⟨I.base.keep b o (I.ok.bs b o e).1 (I.ok.bs b o e).2 (I.ok.nofr e) (I.ok.noex b o e), I.base.free b o (I.ok.bs b o e).1 (I.ok.bs b o e).2 (I.ok.noex b o e)⟩
theorem Inv.bk (I : Inv X pins σ H s) : ∀ b o, X.base.get? b = some o → s.heap.get? b = some o := fun b o e => (I.bs b o e).1
theorem Inv.mod (I : Inv X pins σ H s) : Mod X.K X.mg X.base := I.ok.mod
theorem Inv.kIn (I : Inv X pins σ H s) : X.K.In s.heap := I.ok.mod.kin.keeps I.bk
theorem Inv.nolimit (I : Inv X pins σ H s) : s.heap.NoLimit := I.ok.mod.nolimit.keeps I.bk
theorem Inv.fr (I : Inv X pins σ H s) : ∃ m, Fr X.base X.env.locals s.heap m :=
  let ⟨m, hn, _⟩ := I.loc
  ⟨m, hn, I.bk, Nat.le_trans I.ok.bsz I.ok.above⟩
theorem Inv.lt (I : Inv X pins σ H s) : X.env.locals < s.heap.objs.size := let ⟨_, hn, _⟩ := I.loc; hn.lt
theorem Inv.sz (I : Inv X pins σ H s) : X.s₀.heap.objs.size ≤ s.heap.objs.size := Nat.le_trans I.ok.above (Nat.le_of_lt I.lt)
theorem Inv.nofs (I : Inv X pins σ H s) {a : Addr} (h : s.heap.objs.size ≤ a) : a ∉ X.fs := fun hb => by
  obtain ⟨_, o, ho, _⟩ := I.ok.funs.mem hb
  exact absurd (Nat.lt_of_lt_of_le (Heap.lt_size ho) (Nat.le_trans I.sz h)) (Nat.lt_irrefl _)
theorem Inv.cne (I : Inv X pins σ H s) : ∀ x c, X.env.cells.lookup x = some c → c ≠ X.env.locals := fun x c e z => by
  obtain ⟨v, o, ho, hd⟩ := I.cell x c e
  obtain ⟨m, ⟨o', es, ep, ho', hd', _⟩, _⟩ := I.loc
  rw [z, ho'] at ho; cases ho; rw [hd'] at hd; cases hd
theorem Inv.funs (I : Inv X pins σ H s) : s.heap.FunFrames X.base X.outer := by
  have all : ∀ (l : List Env), (∀ b ∈ frs l, b ∈ X.fs) → X.s₀.heap.FunFrames X.base l → s.heap.FunFrames X.base l := by
    intro l
    induction l with
    | nil => intro _ _; trivial
    | cons env r ih =>
      intro hs hl
      obtain ⟨hk, ⟨L, o, hf, hn, ho, hd⟩, hr⟩ := hl
      have hL : L ∈ X.fs := hs L (by unfold frs; rw [List.filterMap_cons, hf]; exact List.mem_cons_self)
      obtain ⟨sl, e⟩ := I.base.slot L o ho (I.ok.frf L hL) hL fun z => I.ok.exfs L z hL
      exact ⟨hk, ⟨L, _, hf, hn, e, hd⟩, ih (fun b hb => hs b (by unfold frs; rw [List.filterMap_cons, hf]; exact List.mem_cons_of_mem _ hb)) hr⟩
  exact all X.outer (fun _ hb => hb) I.ok.funs
theorem Inv.stack (I : Inv X pins σ H s) : s.heap.FunFrames X.base X.stack := by
  rcases I.ok.stk with e | ⟨e, hf⟩
  · rw [e]; exact I.funs
  · rw [e]
    obtain ⟨m, hn, _⟩ := I.loc
    refine .cons (by rw [I.ok.kind]; decide) hf hn ?_ I.funs
    exact Heap.get?_none_of_le (Nat.le_trans I.ok.bsz I.ok.above)
theorem Inv.stkSub (I : Inv X pins σ H s) : ∀ b ∈ frs X.stack, b ∈ X.env.locals :: X.fs := fun b hb => by
  rcases I.ok.stk with e | ⟨e, hf⟩
  · rw [e] at hb; exact List.mem_cons_of_mem _ hb
  · rw [e] at hb
    unfold frs at hb
    rw [List.filterMap_cons, hf] at hb
    exact hb
theorem Inv.stkFree (I : Inv X pins σ H s) : ∀ b ∈ frs X.stack, H b = none := fun b hb => by
  rcases List.mem_cons.mp (I.stkSub b hb) with e | hb
  · rw [e]; exact I.free
  · obtain ⟨_, o, ho, _⟩ := I.ok.funs.mem hb
    exact I.base.free b o ho (I.ok.frf b hb) fun z => I.ok.exfs b z hb
theorem Inv.step {g' : Array GenState} {t' : Nat} {d' : Drawn} {ch : List Addr} (I : Inv X pins σ H s)
    (hch : ∀ b ∈ ch, (b ∈ X.ex ∨ X.s₀.heap.objs.size ≤ b) ∧ b ≠ X.env.locals ∧ (∀ x c, X.env.cells.lookup x = some c → c ≠ b) ∧ ∀ p ∈ X.pn ++ pins, p.1 ≠ b)
    (keep : ∀ b o, b ≠ X.env.locals → b ∉ X.fs → b ∉ ch → s.heap.get? b = some o → H b = none → h'.get? b = some o)
    (slot : ∀ b o, b ≠ X.env.locals → b ∈ X.fs → b ∉ ch → s.heap.get? b = some o → H b = none → ∃ sl, h'.get? b = some { o with slots := sl }) (free : ∀ b o, b ∉ ch → s.heap.get? b = some o → H b = none → H' b = none)
    (there : ∀ b o, b ∉ ch → s.heap.get? b = some o → ∃ o', h'.get? b = some o')
    (tups : ∀ b xs, H b = some (.tup xs) → H' b = some (.tup xs)) (frzs : ∀ b o u, H b = some (.frz o u) → H' b = some (.frz o u)) (tbls : ∀ b ps, H b = some (.tbl ps) → ∃ more, H' b = some (.tbl (ps ++ more)))
    (ns : ∀ m, s.heap.Ns X.env.locals m → h'.Ns X.env.locals m) (hok : HOk X.prog X.w H' h') (hg : AllBare g') :
    Inv X pins σ H' { s with heap := h', gens := g', drawn := d', toks := t' } := by
  have neL : ∀ b o, X.s₀.heap.get? b = some o → b ≠ X.env.locals := fun b o e => Nat.ne_of_lt (Nat.lt_of_lt_of_le (Heap.lt_size e) I.ok.above)
  have neC : ∀ b o, X.s₀.heap.get? b = some o → b ∉ X.ex → b ∉ ch := fun b o e hx hb => by
    rcases (hch b hb).1 with z | z
    · exact hx z
    · exact absurd (Nat.lt_of_lt_of_le (Heap.lt_size e) z) (Nat.lt_irrefl _)
  have cellK : ∀ x c, X.env.cells.lookup x = some c → ∀ v, s.heap.IsCell c v → h'.IsCell c v := fun x c e v ⟨o, ho, hd⟩ => by
    have nch : c ∉ ch := fun z => (hch c z).2.2.1 x c e rfl
    by_cases hc : c ∈ X.fs
    · obtain ⟨sl, q⟩ := slot c o (I.cne x c e) hc nch ho (I.freeC x c e)
      exact ⟨_, q, hd⟩
    · exact ⟨o, keep c o (I.cne x c e) hc nch ho (I.freeC x c e), hd⟩
  refine ⟨I.ok, I.os, hg, ⟨fun b o e n hb hx => ?_, fun b o e n hb hx => ?_, fun b o e n hx => ?_, fun b o e hx => ?_, fun b xs e => tups b xs (I.base.tups b xs e), fun b o xs e => frzs b o xs (I.base.frzs b o xs e), fun b ps e => ?_⟩, ?_, fun x c e => ?_, ?_, fun x c e => ?_, fun p hp => ?_, hok, I.len⟩
  · exact keep b o (neL b o e) hb (neC b o e hx) (I.base.keep b o e n hb hx) (I.base.free b o e n hx)
  · obtain ⟨sl, e1⟩ := I.base.slot b o e n hb hx
    obtain ⟨sl', e2⟩ := slot b _ (neL b o e) hb (neC b o e hx) e1 (I.base.free b o e n hx)
    exact ⟨sl', e2⟩
  · obtain ⟨o', e1⟩ := I.base.there b o e hx
    exact free b o' (neC b o e hx) e1 (I.base.free b o e n hx)
  · obtain ⟨o', e1⟩ := I.base.there b o e hx
    exact there b o' (neC b o e hx) e1
  · obtain ⟨m1, e1⟩ := I.base.tbls b ps e
    obtain ⟨m2, e2⟩ := tbls b _ e1
    exact ⟨m1 ++ m2, by rw [e2, Array.append_assoc]⟩
  · obtain ⟨m, hn, hl⟩ := I.loc
    refine ⟨m, ns m hn, fun i x v e1 e2 e3 => ?_⟩
    obtain ⟨u, r, l⟩ := hl i x v e1 e2 e3
    refine ⟨u, r, ?_⟩
    rcases l with l | ⟨k, c, e, z⟩
    · exact .inl l
    · exact .inr ⟨k, c, e, cellK x c e _ z⟩
  · obtain ⟨v, z⟩ := I.cell x c e
    exact ⟨v, cellK x c e v z⟩
  · obtain ⟨m, ⟨o, _, _, ho, _⟩, _⟩ := I.loc
    exact free _ o (fun z => (hch _ z).2.1 rfl) ho I.free
  · obtain ⟨v, o, ho, hd⟩ := I.cell x c e
    exact free c o (fun z => (hch c z).2.2.1 x c e rfl) ho (I.freeC x c e)
  · obtain ⟨e, n, ne, nf, d⟩ := I.pin p hp
    have nch : p.1 ∉ ch := fun z => (hch p.1 z).2.2.2 p hp rfl
    exact ⟨keep p.1 p.2 ne nf nch e n, free p.1 p.2 nch e n, ne, nf, d⟩
theorem Inv.un {t' : Nat} (I : Inv X pins σ H s) (u : Un X.fs [] H H' s.heap h') (hok : HOk X.prog X.w H' h') : Inv X pins σ H' { s with heap := h', toks := t' } := by
  obtain ⟨m, ⟨o, es, ep, ho, r⟩, _⟩ := id I.loc
  obtain ⟨sl, hL⟩ := u.any ho I.free (by simp)
  exact I.step (g' := s.gens) (d' := s.drawn) (ch := []) (fun _ z => nomatch z) (fun b o _ hb _ e n => u.keep b o e n hb (by simp)) (fun b o _ hb _ e n => u.slot b o e n hb (by simp)) (fun b o _ e n => u.free b o e n (by simp)) (fun b o _ e => u.there b o e (by simp)) u.tups u.frzs u.tbls (fun m' hm => by
    obtain ⟨o', es', ep', ho', r'⟩ := hm
    rw [ho] at ho'; cases ho'
    exact ⟨_, es', ep', hL, r'⟩) hok I.bare
theorem Inv.call {g' : Array GenState} {t' : Nat} {d' : Drawn} {ch : List Addr} (I : Inv X pins σ H s) (u : Un (frs X.stack) ch H H' s.heap h') (hok : HOk X.prog X.w H' h') (hg : AllBare g')
    (hch : ∀ b ∈ ch, (b ∈ X.ex ∨ X.s₀.heap.objs.size ≤ b) ∧ b ≠ X.env.locals ∧ (∀ x c, X.env.cells.lookup x = some c → c ≠ b) ∧ ∀ p ∈ X.pn ++ pins, p.1 ≠ b) :
    Inv X pins σ H' { s with heap := h', gens := g', drawn := d', toks := t' } := by
  obtain ⟨m, ⟨o, es, ep, ho, r⟩, _⟩ := id I.loc
  obtain ⟨sl, hL⟩ := u.any ho I.free fun z => (hch _ z).2.1 rfl
  exact I.step (ch := ch) hch (fun b o hL hb hc e n => u.keep b o e n (fun z => (List.mem_cons.mp (I.stkSub b z)).elim hL hb) hc) (fun b o _ _ hc e n => u.any e n hc) (fun b o hc e n => u.free b o e n hc) (fun b o hc e => u.there b o e hc) u.tups u.frzs u.tbls (fun m' hm => by
    obtain ⟨o', es', ep', ho', r'⟩ := hm
    rw [ho] at ho'; cases ho'
    exact ⟨_, es', ep', hL, r'⟩) hok hg
theorem Inv.turned {t' : Nat} {it : Addr} (I : Inv X pins σ H s) (k : ∀ b o, b ≠ it → s.heap.get? b = some o → h'.get? b = some o) (hn : H it = none) (hL : it ≠ X.env.locals)
    (h1 : it ∈ X.ex ∨ X.s₀.heap.objs.size ≤ it) (h2 : ∀ x c, X.env.cells.lookup x = some c → c ≠ it) (h3 : ∀ p ∈ X.pn ++ pins, p.1 ≠ it) : Inv X pins σ H { s with heap := h', toks := t' } := by
  have nit : ∀ b u, H b = some u → b ≠ it := fun b u e z => by rw [z, hn] at e; cases e
  refine I.step (g' := s.gens) (d' := s.drawn) (ch := [it]) (fun b hb => ?_) (fun b o _ _ hc e _ => k b o (fun z => hc (by simp [z])) e) (fun b o _ _ hc e _ => ⟨o.slots, k b o (fun z => hc (by simp [z])) e⟩) (fun _ _ _ _ n => n)
    (fun b o hc e => ⟨o, k b o (fun z => hc (by simp [z])) e⟩) (fun _ _ e => e) (fun _ _ _ e => e) (fun b ps e => ⟨#[], by rw [e]; simp⟩) (fun m hm => ?_) (fun b u e => ?_) I.bare
  · have e : b = it := by simpa using hb
    subst e
    exact ⟨h1, hL, h2, h3⟩
  · obtain ⟨o, es, ep, ho, r⟩ := hm
    exact ⟨o, es, ep, k _ o (Ne.symm hL) ho, r⟩
  · refine (I.hok b u e).stay (fun c v hc q => k c v ?_ q) (fun _ q => q) fun _ _ q => q
    rcases hc with z | z
    · rw [z]; exact nit b u e
    · exact nit c _ z
theorem Inv.tok (I : Inv X pins σ H s) (t : Nat) : Inv X pins σ H { s with toks := t } := I.un (h' := s.heap) (t' := t) Un.refl I.hok
theorem Inv.kept {t' : Nat} (I : Inv X pins σ H s) (k : ∀ b u, s.heap.get? b = some u → h'.get? b = some u) : Inv X pins σ H { s with heap := h', toks := t' } := I.un (Un.kept k) (I.hok.kept k)
theorem Inv.laid {a : Addr} {o : HO} {t' : Nat} (I : Inv X pins σ H s) (k : ∀ b u, s.heap.get? b = some u → h'.get? b = some u) (hp : s.heap.objs.size ≤ a) (new : ObjOk X.prog X.w (upd H a o) h' a o) :
    Inv X pins σ (upd H a o) { s with heap := h', toks := t' } := I.un (Un.laid k hp (I.hok.fresh hp)) (I.hok.laid k hp new)
theorem Inv.write {x e : Addr} {o : HO} {t' : Nat} (I : Inv X pins σ H s) (mu : Mut (H x)) (he : e = x ∨ H e = some (.own x)) (k : ∀ b u, b ≠ e → s.heap.get? b = some u → h'.get? b = some u) (heo : ∃ u, h'.get? e = some u)
    (new : ObjOk X.prog X.w (upd H x o) h' x o) : Inv X pins σ (upd H x o) { s with heap := h', toks := t' } := I.un (Un.write mu he k heo) (I.hok.write mu he k heo new)
theorem Inv.pins_of {pins' : List (Addr × Obj)} (I : Inv X pins σ H s) (h : ∀ p ∈ pins', s.heap.get? p.1 = some p.2 ∧ H p.1 = none ∧ p.1 ≠ X.env.locals ∧ p.1 ∉ X.fs ∧ ∀ v, p.2.data ≠ .cell v) : Inv X pins' σ H s :=
  ⟨I.ok, I.os, I.bare, I.base, I.loc, I.cell, I.free, I.freeC, fun p hp => (List.mem_append.mp hp).elim (fun z => I.pin p (List.mem_append_left _ z)) (h p), I.hok, I.len⟩
theorem nodup_ix {N : List Str} (hN : N.Nodup) {i j : Nat} {x : Str} (a : N[i]? = some x) (b : N[j]? = some x) : i = j := by
  obtain ⟨h1, e1⟩ := List.getElem?_eq_some_iff.mp a
  obtain ⟨h2, e2⟩ := List.getElem?_eq_some_iff.mp b
  exact (List.getElem_inj hN).mp (e1.trans e2.symm)
theorem store_ok2 {M : Model} {A : Around} {E : Value → Shared → Prop} {i : Nat} {x : Str} {v : V} {u : Value} {Q : Unit → Shared → Prop} (I : Inv X pins σ H s) (hN : X.N.Nodup) (hi : X.N[i]? = some x) (hx : Loc X.env.scope x) (r : RelV v u)
    (h : ∀ s', Inv X pins (σ.set i (some v)) H s' → (∃ a, Heap.SameBut a s.heap s'.heap ∧ (a = X.env.locals ∨ X.env.cells.lookup x = some a)) → Q () s') (hf : X.fn x = true ∨ X.env.scope.names.lookup x = some .local := by first | exact .inl rfl | exact .inr rfl | assumption) : wpAny M A (storeName X.env x u) Q E s := by
  obtain ⟨m, hn, hl⟩ := id I.loc
  have hcls : (X.env.scope.kind == .class || (X.env.scope.kind == .module && X.env.locals != X.env.globals)) = false := by rw [I.ok.kind]; rfl
  have hiσ : i < σ.length := by rw [I.len]; exact (List.getElem?_eq_some_iff.mp hi).1
  have cne := I.cne
  have tracked : ∀ {a : Addr} {h' : Heap}, (∃ o, s.heap.get? a = some o ∧ H a = none) → Heap.SameBut a s.heap h' → HOk X.prog X.w H h' := fun {a h'} ha hs b ob e => by
    obtain ⟨_, _, hfree⟩ := ha
    refine (I.hok b ob e).stay (fun c w' hc q => (hs.2 c ?_).trans q) (fun _ q => q) fun _ _ q => q
    rintro rfl
    rcases hc with rfl | hc
    · rw [hfree] at e; cases e
    · rw [hfree] at hc; cases hc
  rcases hx with hk | hk
  · refine wpAny_storeName_local hk hn (fun h' hn' hs => ?_) hcls
    obtain ⟨oL, _, _, hoL, _⟩ := id hn
    refine h _ ⟨I.ok, I.os, I.bare, ⟨fun b o e n hb hx => ?_, fun b o e n hb hx => ?_, I.base.free, fun b o e hx => ?_, I.base.tups, I.base.frzs, I.base.tbls⟩, ⟨_, hn', fun j y v' e1 e2 e3 => ?_⟩, fun y c e => ?_, I.free, I.freeC, fun p hp => ?_, tracked ⟨oL, hoL, I.free⟩ hs, by simpa using I.len⟩ ⟨_, hs, .inl rfl⟩
    · exact (hs.2 b (Nat.ne_of_lt (Nat.lt_of_lt_of_le (Heap.lt_size e) I.ok.above))).trans (I.base.keep b o e n hb hx)
    · obtain ⟨sl, e1⟩ := I.base.slot b o e n hb hx
      exact ⟨sl, (hs.2 b (Nat.ne_of_lt (Nat.lt_of_lt_of_le (Heap.lt_size e) I.ok.above))).trans e1⟩
    · obtain ⟨o', e1⟩ := I.base.there b o e hx
      exact ⟨o', (hs.2 b (Nat.ne_of_lt (Nat.lt_of_lt_of_le (Heap.lt_size e) I.ok.above))).trans e1⟩
    · by_cases hj : j = i
      · subst hj
        rw [hi] at e1; cases e1
        rw [List.getElem?_set_self hiσ] at e2
        cases e2
        exact ⟨u, r, .inl ⟨hk, by simp⟩⟩
      · rw [List.getElem?_set_ne (Ne.symm hj)] at e2
        obtain ⟨u', r', q⟩ := hl j y v' e1 e2 e3
        refine ⟨u', r', ?_⟩
        rcases q with ⟨k, e⟩ | ⟨k, c, e, z⟩
        · refine .inl ⟨k, ?_⟩
          have : y ≠ x := fun e => hj (nodup_ix hN e1 (e ▸ hi))
          simp [this, e]
        · exact .inr ⟨k, c, e, z.sameBut hs (cne y c e)⟩
    · obtain ⟨w', z⟩ := I.cell y c e
      exact ⟨w', z.sameBut hs (cne y c e)⟩
    · obtain ⟨e, n, ne, nf, d⟩ := I.pin p hp
      exact ⟨(hs.2 p.1 ne).trans e, n, ne, nf, d⟩
  · have hfn : X.fn x = true := by
      rcases hf with z | z
      · exact z
      · rw [z] at hk; cases hk
    obtain ⟨c, hc⟩ := I.ok.has x (.inl hk)
    obtain ⟨w', z⟩ := I.cell x c hc
    refine wpAny_storeName_cell I.ok.kind hk hc z (fun h' hc' hs => ?_)
    obtain ⟨oc, hoc, hocd⟩ := id z
    refine h { s with heap := h' } ⟨I.ok, I.os, I.bare, ⟨fun b o e n hb hx => ?_, fun b o e n hb hx => ?_, I.base.free, fun b o e hx => ?_, I.base.tups, I.base.frzs, I.base.tbls⟩, ⟨m, hn.sameBut hs (Ne.symm (cne x c hc)), fun j y v' e1 e2 e3 => ?_⟩, fun y c' e => ?_, I.free, I.freeC, fun p hp => ?_, tracked ⟨oc, hoc, I.freeC x c hc⟩ hs, by simpa using I.len⟩ ⟨c, hs, .inr hc⟩
    · exact (hs.2 b (Nat.ne_of_lt (Nat.lt_of_lt_of_le (Heap.lt_size e) (I.ok.cab x c hfn hc)))).trans (I.base.keep b o e n hb hx)
    · obtain ⟨sl, e1⟩ := I.base.slot b o e n hb hx
      exact ⟨sl, (hs.2 b (Nat.ne_of_lt (Nat.lt_of_lt_of_le (Heap.lt_size e) (I.ok.cab x c hfn hc)))).trans e1⟩
    · obtain ⟨o', e1⟩ := I.base.there b o e hx
      exact ⟨o', (hs.2 b (Nat.ne_of_lt (Nat.lt_of_lt_of_le (Heap.lt_size e) (I.ok.cab x c hfn hc)))).trans e1⟩
    · by_cases hj : j = i
      · subst hj
        rw [hi] at e1; cases e1
        rw [List.getElem?_set_self hiσ] at e2
        cases e2
        exact ⟨u, r, .inr ⟨.inl hk, c, hc, hc'⟩⟩
      · rw [List.getElem?_set_ne (Ne.symm hj)] at e2
        obtain ⟨u', r', q⟩ := hl j y v' e1 e2 e3
        refine ⟨u', r', ?_⟩
        rcases q with q | ⟨k, c', e, z'⟩
        · exact .inl q
        · refine .inr ⟨k, c', e, z'.sameBut hs ?_⟩
          rintro rfl
          exact hj (nodup_ix hN e1 (I.ok.inj _ _ _ e hc ▸ hi))
    · by_cases hcc : c' = c
      · subst hcc; exact ⟨_, hc'⟩
      · obtain ⟨w2, z2⟩ := I.cell y c' e
        exact ⟨w2, z2.sameBut hs hcc⟩
    · obtain ⟨e, n, ne, nf, d⟩ := I.pin p hp
      refine ⟨(hs.2 p.1 ?_).trans e, n, ne, nf, d⟩
      intro q
      rw [q, hoc] at e
      have q' : oc = p.2 := Option.some.inj e
      exact d w' (by rw [← q']; exact hocd)
theorem store_ok {M : Model} {A : Around} {E : Value → Shared → Prop} {i : Nat} {x : Str} {v : V} {u : Value} {Q : Unit → Shared → Prop} (I : Inv X pins σ H s) (hN : X.N.Nodup) (hi : X.N[i]? = some x) (hx : Loc X.env.scope x) (r : RelV v u)
    (h : ∀ s', Inv X pins (σ.set i (some v)) H s' → Q () s') (hf : X.fn x = true ∨ X.env.scope.names.lookup x = some .local := by first | exact .inl rfl | exact .inr rfl | assumption) : wpAny M A (storeName X.env x u) Q E s :=
  store_ok2 I hN hi hx r (fun s' I' _ => h s' I') hf
theorem Inv.call' {s' : Shared} {ch : List Addr} (I : Inv X pins σ H s) (ho : s'.os = s.os) (u : Un (frs X.stack) ch H H' s.heap s'.heap) (hok : HOk X.prog X.w H' s'.heap) (hg : AllBare s'.gens)
    (hch : ∀ b ∈ ch, (b ∈ X.ex ∨ X.s₀.heap.objs.size ≤ b) ∧ b ≠ X.env.locals ∧ (∀ x c, X.env.cells.lookup x = some c → c ≠ b) ∧ ∀ p ∈ X.pn ++ pins, p.1 ≠ b) : Inv X pins σ H' s' := by
  obtain ⟨h', g', d', t', o'⟩ := s'
  have e : o' = s.os := ho
  subst e
  exact I.call (g' := g') (t' := t') (d' := d') u hok hg hch
end
abbrev XK := Value → Option Addr → Hp → Prop
abbrev St := List (Option V)
abbrev VK := V → Hp → Prop
abbrev TE := St → Hp → VK → Prop
abbrev TT := St → Hp → (Bool → Hp → Prop) → Prop
abbrev TA := St → Hp → (List V → Hp → Prop) → Prop
structure Ends where
  nx : St → Hp → Prop
  rt : VK
  bk : St → Hp → Prop := fun _ _ => False
  ct : St → Hp → Prop := fun _ _ => False
abbrev TS := Ends → St → Hp → Prop
def EP (X : Cx) (pins : List (Addr × Obj)) (σ : St) (Q : VK) (u : Value) (s' : Shared) : Prop := ∃ v H', Inv X pins σ H' s' ∧ RelV v u ∧ Q v H'
def TP (X : Cx) (pins : List (Addr × Obj)) (σ : St) (Q : Bool → Hp → Prop) (b : Bool) (s' : Shared) : Prop := ∃ H', Inv X pins σ H' s' ∧ Q b H'
def AP (X : Cx) (pins : List (Addr × Obj)) (σ : St) (Q : List V → Hp → Prop) (us : List Value) (s' : Shared) : Prop := ∃ vs H', Inv X pins σ H' s' ∧ Vals vs us ∧ Q vs H'
def SP (X : Cx) (pins : List (Addr × Obj)) (D : Ends) (f : Flow) (s' : Shared) : Prop :=
  match f with
  | .next => ∃ σ' H', Inv X pins σ' H' s' ∧ D.nx σ' H'
  | .brk => ∃ σ' H', Inv X pins σ' H' s' ∧ D.bk σ' H'
  | .cont => ∃ σ' H', Inv X pins σ' H' s' ∧ D.ct σ' H'
  | .ret u => ∃ v σ' H', Inv X pins σ' H' s' ∧ RelV v u ∧ D.rt v H'
def PE (X : Cx) (e : Expr) (t : TE) : Prop :=
  ∀ (pins : List (Addr × Obj)) (s : Shared) (σ : St) (H : Hp) (Q : VK), Inv X pins σ H s → t σ H Q → wpAny (model X.prog X.w) X.A (eval e X.env) (EP X pins σ Q) X.xe s
def PT (X : Cx) (e : Expr) (t : TT) : Prop :=
  ∀ (pins : List (Addr × Obj)) (s : Shared) (σ : St) (H : Hp) (Q : Bool → Hp → Prop), Inv X pins σ H s → t σ H Q → wpAny (model X.prog X.w) X.A (isTrue e X.env (eval e X.env)) (TP X pins σ Q) X.xe s
def PW (X : Cx) (e : Expr) (t : TT) : Prop :=
  ∀ (whole : Sem Value) (pins : List (Addr × Obj)) (s : Shared) (σ : St) (H : Hp) (Q : Bool → Hp → Prop), Inv X pins σ H s → t σ H Q → wpAny (model X.prog X.w) X.A (isTrue e X.env whole) (TP X pins σ Q) X.xe s
theorem PW.pt {X : Cx} {e : Expr} {t : TT} (h : PW X e t) : PT X e t := h _
def PA (X : Cx) (es : List Expr) (t : TA) : Prop :=
  ∀ (pos : Pos) (pins : List (Addr × Obj)) (s : Shared) (σ : St) (H : Hp) (Q : List V → Hp → Prop), Inv X pins σ H s → t σ H Q → wpAny (model X.prog X.w) X.A (spliced (backTo pos (starEach es X.env))) (AP X pins σ Q) X.xe s
def PS (X : Cx) (st : Stmt) (t : TS) : Prop :=
  ∀ (pins : List (Addr × Obj)) (s : Shared) (σ : St) (H : Hp) (D : Ends), Inv X pins σ H s → t D σ H → wpAny (model X.prog X.w) X.A (exec st X.env) (SP X pins D) X.xe s
def PSs (X : Cx) (st : List Stmt) (t : TS) : Prop :=
  ∀ (pins : List (Addr × Obj)) (s : Shared) (σ : St) (H : Hp) (D : Ends), Inv X pins σ H s → t D σ H → wpAny (model X.prog X.w) X.A (execs st X.env) (SP X pins D) X.xe s
theorem thn {α : Type} {t : Sem α} {Q Q' : α → Shared → Prop} {M : Model} {A : Around} {E : Value → Shared → Prop} {s : Shared} (h : wpAny M A t Q E s) (hQ : ∀ a s, Q a s → Q' a s) : wpAny M A t Q' E s := wpAny_mono h hQ fun _ _ x => x
end L2
namespace L2
open PySem PySem.Spec PyProof.Rows
section
variable {X : Cx}
def tVar (i : Nat) : TE := fun σ H Q => ∃ v, σ[i]? = some (some v) ∧ Q v H
def tC (v : V) : TE := fun _ H Q => Q v H
theorem pe_var {i : Nat} {x : Str} {pos : Pos} (hN : X.N[i]? = some x) (hv : Vis X.env.scope x) (hd : (x == ("__debug__" : Str)) = false := by decide) (hcd : (x == ("__classdict__" : Str)) = false := by decide) : PE X (.Name x pos) (tVar i) := by
  intro pins s σ H Q I h
  obtain ⟨v, e, h⟩ := h
  obtain ⟨m, hn, hl⟩ := I.loc
  obtain ⟨u, r, l⟩ := hl i x v hN e hv
  have fin : EP X pins σ Q u s := ⟨v, H, I, r, h⟩
  rcases l with ⟨hk, hm⟩ | ⟨hk, c, hc, hcell⟩
  · exact wpAny_Name (wpAny_loadName_local I.ok.kind hk hn hm fin) hd
  · rcases hk with hk | hk
    · exact wpAny_Name (wpAny_loadName_cell I.ok.kind hk hc hcell fin) hd
    · exact wpAny_Name (wpAny_loadName_free I.ok.kind hk hc hcell fin hcd) hd
theorem pe_int {i j pos} : PE X (.Constant (.int i) j pos) (tC (.int i)) := fun _ _ _ H _ I h => wpAny_Constant_int ⟨.int i, H, I.tok _, ⟨_, rfl⟩, h⟩
theorem pe_bl {b j pos} : PE X (.Constant (.bool b) j pos) (tC (.bl b)) := fun _ _ _ H _ I h => Constant_bool ⟨.bl b, H, I, rfl, h⟩
theorem pe_non {j pos} : PE X (.Constant .none j pos) (tC .non) := fun _ _ _ H _ I h => Constant_none ⟨.non, H, I, rfl, h⟩
theorem pe_str {x j pos} : PE X (.Constant (.str x) j pos) (tC (.str x)) := fun _ _ _ H _ I h => Calls.Constant_str ⟨.str x, H, I.tok _, ⟨_, rfl⟩, h⟩
def Gl (X : Cx) (x : Str) : Prop := X.env.kindOf x = some .globalImplicit
theorem ld_glob {E : Value → Shared → Prop} {pins : List (Addr × Obj)} {s : Shared} {σ : St} {H : Hp} {x : Str} {u : Value} {pos : Pos} {Q : Value → Shared → Prop} (I : Inv X pins σ H s) (hg : Gl X x) (hm : X.mg x = some u) (h : Q u s)
    (hd : (x == ("__debug__" : Str)) = false := by decide) : wpAny (model X.prog X.w) X.A (eval (.Name x pos) X.env) Q E s :=
  Calls.Name_function_global I.ok.kind hg (Calls.loadGlobal_global (by rw [I.ok.glob]; exact I.mod.glob.keeps I.bk) hm h) hd
theorem ld_blt {E : Value → Shared → Prop} {pins : List (Addr × Obj)} {s : Shared} {σ : St} {H : Hp} {x : Str} {u : Value} {pos : Pos} {Q : Value → Shared → Prop} (I : Inv X pins σ H s) (hg : Gl X x) (hm : X.mg x = none) (hv : bootBuiltins x = some u) (h : Q u s)
    (hn : x ≠ "__name__" := by decide) (hd : (x == ("__debug__" : Str)) = false := by decide) : wpAny (model X.prog X.w) X.A (eval (.Name x pos) X.env) Q E s := by
  obtain ⟨mb, h1, h2⟩ := I.mod.blt
  exact Calls.Name_function_global I.ok.kind hg (Calls.loadGlobal_builtin (by rw [I.ok.glob]; exact I.mod.glob.keeps I.bk) hm (by rw [I.ok.blt]; exact h1.keeps I.bk) ((h2 x hn).trans hv) h) hd
theorem pe_glob {x : Str} {v : V} {u : Value} {pos : Pos} (hg : Gl X x) (hm : X.mg x = some u) (r : RelV v u) (hd : (x == ("__debug__" : Str)) = false := by decide) : PE X (.Name x pos) (tC v) :=
  fun _ _ _ H _ I h => ld_glob I hg hm ⟨v, H, I, r, h⟩ hd
theorem pe_bltn {x : Str} {v : V} {u : Value} {pos : Pos} (hg : Gl X x) (hm : X.mg x = none) (hv : bootBuiltins x = some u) (r : RelV v u) (hn : x ≠ "__name__" := by decide) (hd : (x == ("__debug__" : Str)) = false := by decide) : PE X (.Name x pos) (tC v) :=
  fun _ _ _ H _ I h => ld_blt I hg hm hv ⟨v, H, I, r, h⟩ hn hd
variable {a b : Expr} {ta tb : TE} {pos : Pos}
def PC (X : Cx) (op : CmpOp) (a b : Expr) (t : TE) : Prop :=
  ∀ (pins : List (Addr × Obj)) (s : Shared) (σ : St) (H : Hp) (Q : VK), Inv X pins σ H s → t σ H Q →
    wpAny (model X.prog X.w) X.A (eval a X.env) (fun v s₁ => wpAny (model X.prog X.w) X.A (eval b X.env) (fun u s₂ => wpAny (model X.prog X.w) X.A (compareOp op v u) (EP X pins σ Q) X.xe s₂) X.xe s₁) X.xe s
theorem nobehind (b : Expr) {op : CmpOp} (h : op ≠ .In) (h2 : op ≠ .NotIn) : behindInMarks op b = false := by
  have e1 : (op == CmpOp.In) = false := by cases op <;> first | rfl | exact absurd rfl h
  have e2 : (op == CmpOp.NotIn) = false := by cases op <;> first | rfl | exact absurd rfl h2
  cases b <;> simp [behindInMarks, e1, e2]
def tIsN (ta : TE) : TE := fun σ H Q => ta σ H fun x H1 => Q (.bl (decide (x = .non))) H1
theorem RelV.none_iff {x : V} {v : Value} (r : RelV x v) : (v == Value.none) = decide (x = .non) := by
  cases x with
  | non => cases r; rfl
  | bl _ => cases r; rfl
  | int _ => obtain ⟨t, rfl⟩ := r; rfl
  | str _ => obtain ⟨t, rfl⟩ := r; rfl
  | byt _ => obtain ⟨t, rfl⟩ := r; rfl
  | flt _ => obtain ⟨t, rfl⟩ := r; rfl
  | ref _ => cases r; rfl
  | ty _ => cases r; rfl
theorem pc_isN {j pos'} (ha : PE X a ta) : PC X .Is a (.Constant .none j pos') (tIsN ta) := by
  intro pins s σ H Q I h
  refine thn (ha pins s σ H _ I h) fun v s1 ⟨x, H1, I1, r1, q1⟩ => ?_
  exact Constant_none (is_none_gen ⟨.bl _, H1, I1, by rw [r1.none_iff]; rfl, q1⟩)
def tB (t : TE) : TT := fun σ H Q => t σ H fun x H1 => ∃ c, x = .bl c ∧ Q c H1
theorem pe_cmp {op : CmpOp} {t : TE} (h : PC X op a b t) (h1 : behindInMarks op b = false := by first | exact nobehind _ (by decide) (by decide) | rfl) : PE X (.Compare a [op] [b] pos) t := fun pins s σ H Q I hw => wpAny_Compare1 (h pins s σ H Q I hw) h1
theorem pt_cmp {op : CmpOp} {t : TE} (h : PC X op a b t) (h1 : behindInMarks op b = false := by first | exact nobehind _ (by decide) (by decide) | rfl) : PT X (.Compare a [op] [b] pos) (tB t) := by
  intro pins s σ H Q I hw
  refine wpAny_isTrue_Compare1 (thn (h pins s σ H _ I hw) fun v s1 h1 => thn h1 fun u s2 h2 => thn h2 fun c s3 ⟨x, H1, I1, r1, q1⟩ => ?_) h1
  obtain ⟨d, rfl, q⟩ := q1
  cases r1
  exact wpAny_truthy_bool ⟨H1, I1, q⟩
theorem pt_val {e : Expr} {t : TE} (h : PE X e t) (he : ∀ whole, isTrue e X.env whole = (do let v ← whole; standAt e.pos; holding [v] (truthy v)) := by intro _; rfl) : PT X e (tB t) := by
  intro pins s σ H Q I hw
  refine isTrue_plain (thn (h pins s σ H _ I hw) fun v s1 ⟨x, H1, I1, r1, q1⟩ => ?_) (he _)
  obtain ⟨d, rfl, q⟩ := q1
  cases r1
  exact wpAny_truthy_bool ⟨H1, I1, q⟩
variable {tA tB' : TT} {rest : List Expr}
def tAnd (t u : TT) : TT := fun σ H Q => t σ H fun c H1 => if c = true then u σ H1 Q else Q false H1
def tOr (t u : TT) : TT := fun σ H Q => t σ H fun c H1 => if c = true then Q true H1 else u σ H1 Q
def tNot (t : TT) : TT := fun σ H Q => t σ H fun c H1 => Q (!c) H1
theorem pw_and1 (ha : PT X a tA) : PW X (.BoolOp .And [a] pos) tA := by
  intro wh pins s σ H Q I h
  refine isTrue_and (thn (ha pins s σ H Q I h) fun c s1 e => ?_)
  cases c with
  | true => exact isTrue_and_nil e
  | false => exact e
theorem pw_or1 (ha : PT X a tA) : PW X (.BoolOp .Or [a] pos) tA := by
  intro wh pins s σ H Q I h
  refine isTrue_or (thn (ha pins s σ H Q I h) fun c s1 e => ?_)
  cases c with
  | false => exact isTrue_or_nil e
  | true => exact e
theorem pw_and (ha : PT X a tA) (hb : PW X (.BoolOp .And (b :: rest) pos) tB') : PW X (.BoolOp .And (a :: b :: rest) pos) (tAnd tA tB') := by
  intro wh pins s σ H Q I h
  refine isTrue_and (thn (ha pins s σ H _ I h) fun c s1 ⟨H1, I1, q1⟩ => ?_)
  cases c with
  | true => exact hb wh pins s1 σ H1 Q I1 q1
  | false => exact ⟨H1, I1, q1⟩
theorem pw_or (ha : PT X a tA) (hb : PW X (.BoolOp .Or (b :: rest) pos) tB') : PW X (.BoolOp .Or (a :: b :: rest) pos) (tOr tA tB') := by
  intro wh pins s σ H Q I h
  refine isTrue_or (thn (ha pins s σ H _ I h) fun c s1 ⟨H1, I1, q1⟩ => ?_)
  cases c with
  | true => exact ⟨H1, I1, q1⟩
  | false => exact hb wh pins s1 σ H1 Q I1 q1
theorem pt_not (ha : PT X a tA) : PT X (.UnaryOp .Not a pos) (tNot tA) := by
  intro pins s σ H Q I h
  exact isTrue_not (ha pins s σ H (fun c H1 => Q (!c) H1) I h)
def tAndV (ta tb : TE) : TE := fun σ H Q => ta σ H fun x H1 => ∃ c, x = .bl c ∧ if c = true then tb σ H1 Q else Q (.bl false) H1
def tOrV (ta tb : TE) : TE := fun σ H Q => ta σ H fun x H1 => ∃ c, x = .bl c ∧ if c = true then Q (.bl true) H1 else tb σ H1 Q
def tNotV (ta : TE) : TE := fun σ H Q => ta σ H fun x H1 => ∃ c, x = .bl c ∧ Q (.bl (!c)) H1
theorem pe_one {op} {t : TE} (h : PE X a t) : PE X (.BoolOp op [a] pos) t := fun pins s σ H Q I hw => BoolOp_one (h pins s σ H Q I hw)
theorem pe_and (ha : PE X a ta) (hb : PE X (.BoolOp .And (b :: rest) pos) tb) : PE X (.BoolOp .And (a :: b :: rest) pos) (tAndV ta tb) := by
  intro pins s σ H Q I h
  refine BoolOp_and (thn (ha pins s σ H _ I h) fun v s1 ⟨x, H1, I1, r1, q1⟩ => ?_)
  obtain ⟨c, rfl, q1⟩ := q1
  cases r1
  refine wpAny_truthy_bool ?_
  cases c with
  | true => exact hb pins s1 σ H1 Q I1 q1
  | false => exact ⟨.bl false, H1, I1, rfl, q1⟩
theorem pe_not (ha : PE X a ta) : PE X (.UnaryOp .Not a pos) (tNotV ta) := by
  intro pins s σ H Q I h
  refine UnaryOp_ (thn (ha pins s σ H _ I h) fun v s1 ⟨x, H1, I1, r1, q1⟩ => ?_)
  obtain ⟨c, rfl, q1⟩ := q1
  cases r1
  exact not_of (wpAny_truthy_bool ⟨.bl (!c), H1, I1, rfl, q1⟩)
def tIf (t : TT) (ta tb : TE) : TE := fun σ H Q => t σ H fun c H1 => if c = true then ta σ H1 Q else tb σ H1 Q
theorem pe_ifExp {c : Expr} (hc : PT X c tA) (ha : PE X a ta) (hb : PE X b tb) : PE X (.IfExp c a b pos) (tIf tA ta tb) := by
  intro pins s σ H Q I h
  refine wpAny_IfExp (thn (hc pins s σ H _ I h) fun d s1 ⟨H1, I1, q1⟩ => ?_)
  cases d with
  | true => exact ha pins s1 σ H1 Q I1 q1
  | false => exact hb pins s1 σ H1 Q I1 q1
end
end L2
namespace L2
open PySem PySem.Spec PyProof.Rows
def SqL (K : PySem.W.Frag) (H : Hp) (a : Addr) (xs : List V) : Prop :=
  Rd H a (.lst xs) ∨
    ∃ (o : Obj) (its : Array Value) (n : Nat), K.lookup a = some o ∧ o.cls = .type "list" ∧ o.dict = none ∧ o.data = .seq its n ∧ its.size ≤ sizeLine ∧ Vals xs its.toList
def SqT (K : PySem.W.Frag) (H : Hp) (a : Addr) (xs : List V) : Prop :=
  Rd H a (.tup xs) ∨
    ∃ (o : Obj) (its : Array Value) (n : Nat), K.lookup a = some o ∧ o.cls = .type "tuple" ∧ o.data = .seq its n ∧ its.size ≤ sizeLine ∧ Vals xs its.toList
def absV : Value → Option V
  | .none => some .non
  | .bool b => some (.bl b)
  | .int i _ => some (.int i)
  | .str x _ => some (.str x)
  | .bytes b _ => some (.byt b)
  | .float b _ => some (.flt b)
  | .ref a => some (.ref a)
  | .type n => some (.ty n)
  | _ => none
theorem RelV.abs {x : V} {u : Value} (r : RelV x u) : absV u = some x := by
  cases x with
  | non => cases r; rfl
  | bl _ => cases r; rfl
  | int _ => obtain ⟨t, rfl⟩ := r; rfl
  | str _ => obtain ⟨t, rfl⟩ := r; rfl
  | byt _ => obtain ⟨t, rfl⟩ := r; rfl
  | flt _ => obtain ⟨t, rfl⟩ := r; rfl
  | ref _ => cases r; rfl
  | ty _ => cases r; rfl
theorem RelV.inj {x y : V} {u : Value} (r : RelV x u) (q : RelV y u) : x = y := Option.some.inj (r.abs.symm.trans q.abs)
theorem Vals.inj : ∀ {xs ys : List V} {us : List Value}, Vals xs us → Vals ys us → xs = ys
  | _, _, _, .nil, .nil => rfl
  | _, _, _, .cons r t, .cons r' t' => by rw [r.inj r', Vals.inj t t']
section
variable {X : Cx} {pins : List (Addr × Obj)} {σ : St} {H : Hp} {s : Shared} {a : Addr} {xs ys : List V}
theorem SqL.of {K : PySem.W.Frag} (h : H a = some (.lst xs)) : SqL K H a xs := .inl (.inl h)
theorem SqT.of {K : PySem.W.Frag} (h : H a = some (.tup xs)) : SqT K H a xs := .inl (.inl h)
theorem Inv.list (I : Inv X pins σ H s) (h : SqL X.K H a xs) : ∃ its : List Value, Vals xs its ∧ PlainL s.heap a its.toArray ∧ xs.length ≤ sizeLine := by
  rcases h with h | ⟨o, its, n, hk, hc, hd, hs, hz, r⟩
  · obtain ⟨z, its, n, r, e⟩ := h.ok I.hok
    exact ⟨its, r, ⟨_, n, e, rfl, rfl, rfl⟩, z⟩
  · refine ⟨its.toList, r, ⟨o, n, I.kIn a o hk, hc, hd, by simpa using hs⟩, ?_⟩
    have e := r.length
    simp only [Array.length_toList] at e
    omega
theorem Inv.tuple (I : Inv X pins σ H s) (h : SqT X.K H a xs) : ∃ its : List Value, Vals xs its ∧ IsTup s.heap a its.toArray ∧ xs.length ≤ sizeLine := by
  rcases h with h | ⟨o, its, n, hk, hc, hs, hz, r⟩
  · obtain ⟨z, its, r, p⟩ := h.ok I.hok
    exact ⟨its, r, p, z⟩
  · refine ⟨its.toList, r, ⟨o, I.kIn a o hk, hc, n, by simpa using hs⟩, ?_⟩
    have e := r.length
    simp only [Array.length_toList] at e
    omega
theorem Inv.list_inj (I : Inv X pins σ H s) (h : SqL X.K H a xs) (h' : SqL X.K H a ys) : xs = ys := by
  obtain ⟨its, r, ⟨o, n, e, _, _, d⟩, _⟩ := I.list h
  obtain ⟨its', r', ⟨o', n', e', _, _, d'⟩, _⟩ := I.list h'
  rw [e] at e'; cases e'
  rw [d] at d'
  injection d' with d1 _
  have : its = its' := by simpa using congrArg Array.toList d1
  subst this
  exact r.inj r'
end
abbrev Cx.wish (X : Cx) (E : Value → Shared → Prop) : Cx := { X with xe := E }
abbrev Cx.nox (X : Cx) : Cx := X.wish fun _ _ => False
theorem Cx.Ok.wish {X : Cx} (ok : X.Ok) (E : Value → Shared → Prop) : (X.wish E).Ok :=
  ⟨ok.mod, ok.kind, ok.glob, ok.blt, ok.above, ok.inj, ok.has, ok.cab, ok.hd, ok.frames, ok.stk, ok.exf, ok.bs, ok.bsz, ok.noex, ok.exfs, ok.funs, ok.frf⟩
theorem Cx.Ok.unwish {X : Cx} {E : Value → Shared → Prop} (ok : (X.wish E).Ok) : X.Ok :=
  ⟨ok.mod, ok.kind, ok.glob, ok.blt, ok.above, ok.inj, ok.has, ok.cab, ok.hd, ok.frames, ok.stk, ok.exf, ok.bs, ok.bsz, ok.noex, ok.exfs, ok.funs, ok.frf⟩
section
variable {X : Cx} {pins : List (Addr × Obj)} {σ : St} {H : Hp} {s : Shared} {E : Value → Shared → Prop}
theorem Inv.wish (I : Inv X pins σ H s) (E : Value → Shared → Prop) : Inv (X.wish E) pins σ H s := ⟨I.ok.wish E, I.os, I.bare, I.base, I.loc, I.cell, I.free, I.freeC, I.pin, I.hok, I.len⟩
theorem Inv.unwish (I : Inv (X.wish E) pins σ H s) : Inv X pins σ H s := ⟨I.ok.unwish, I.os, I.bare, I.base, I.loc, I.cell, I.free, I.freeC, I.pin, I.hok, I.len⟩
theorem SP.unwish {D : Ends} {f : Flow} {s' : Shared} (h : SP (X.wish E) pins D f s') : SP X pins D f s' := by
  cases f with
  | next => obtain ⟨σ', H', I, q⟩ := h; exact ⟨σ', H', I.unwish, q⟩
  | brk => obtain ⟨σ', H', I, q⟩ := h; exact ⟨σ', H', I.unwish, q⟩
  | cont => obtain ⟨σ', H', I, q⟩ := h; exact ⟨σ', H', I.unwish, q⟩
  | ret u => obtain ⟨v, σ', H', I, r, q⟩ := h; exact ⟨v, σ', H', I.unwish, r, q⟩
theorem PE.nox {e : Expr} {t : TE} (h : PE X.nox e t) : PE X e t := fun pins s σ H Q I hw =>
  wpAny_mono (h pins s σ H Q (I.wish _) hw) (fun _ _ ⟨v, H', I', r, q⟩ => ⟨v, H', I'.unwish, r, q⟩) fun _ _ z => False.elim z
theorem PT.nox {e : Expr} {t : TT} (h : PT X.nox e t) : PT X e t := fun pins s σ H Q I hw =>
  wpAny_mono (h pins s σ H Q (I.wish _) hw) (fun _ _ ⟨H', I', q⟩ => ⟨H', I'.unwish, q⟩) fun _ _ z => False.elim z
theorem PSs.nox {st : List Stmt} {t : TS} (h : PSs X.nox st t) : PSs X st t := fun pins s σ H D I hw =>
  wpAny_mono (h pins s σ H D (I.wish _) hw) (fun _ _ q => q.unwish) fun _ _ z => False.elim z
end
section
variable {X : Cx} {st : Stmt} {rest : List Stmt} {t u : TS} {e : Expr} {te : TE} {pos : Pos}
def tNext : TS := fun D σ H => D.nx σ H
def tSeq (t u : TS) : TS := fun D σ H => t { D with nx := u D } σ H
theorem pss_nil : PSs X [] tNext := fun _ _ σ H _ I h => wpAny_execs_nil ⟨σ, H, I, h⟩
theorem pss_cons (h1 : PS X st t) (h2 : PSs X rest u) : PSs X (st :: rest) (tSeq t u) := by
  intro pins s σ H D I h
  refine wpAny_execs_cons (thn (h1 pins s σ H { D with nx := u D } I h) fun f s1 q => ?_)
  cases f with
  | next =>
    obtain ⟨σ', H', I', q⟩ := q
    exact h2 pins s1 σ' H' D I' q
  | ret v => exact q
  | brk => exact q
  | cont => exact q
theorem pss_one (h1 : PS X st t) : PSs X [st] t := by
  intro pins s σ H D I h
  refine wpAny_execs_cons (thn (h1 pins s σ H D I h) fun f s1 q => ?_)
  cases f with
  | next => exact wpAny_execs_nil q
  | ret v => exact q
  | brk => exact q
  | cont => exact q
theorem ps_pass : PS X (.Pass pos) tNext := fun _ _ σ H _ I h => wpAny_Pass ⟨σ, H, I, h⟩
theorem Inv.quiet {pins : List (Addr × Obj)} {σ : St} {H : Hp} {s : Shared} (I : Inv X pins σ H s) : interactive X.env = false := by simp [interactive, I.ok.kind]
def tDrop (te : TE) : TS := fun D σ H => te σ H fun _ H1 => D.nx σ H1
theorem ps_expr (he : PE X e te) (hs : swapsWith e none pos.line X.env = pure false := by rfl) : PS X (.Expr e pos) (tDrop te) := by
  intro pins s σ H D I h
  exact wpAny_Expr_any (thn (he pins s σ H _ I h) fun v s1 ⟨x, H1, I1, r1, q1⟩ => ⟨σ, H1, I1, q1⟩) I.quiet hs
def tRet (te : TE) : TS := fun D σ H => te σ H D.rt
theorem ps_ret (he : PE X e te) : PS X (.Return (some e) pos) (tRet te) := by
  intro pins s σ H D I h
  exact wpAny_Return_some (thn (he pins s σ H _ I h) fun v s1 ⟨x, H1, I1, r1, q1⟩ => ⟨x, σ, H1, I1, r1, q1⟩)
def tIfS (c : TT) (t u : TS) : TS := fun D σ H => c σ H fun b H1 => if b = true then t D σ H1 else u D σ H1
theorem ps_if {c : Expr} {a b : List Stmt} {tc : TT} (hc : PT X c tc) (ha : PSs X a t) (hb : PSs X b u) : PS X (.If c a b pos) (tIfS tc t u) := by
  intro pins s σ H D I h
  refine wpAny_If (thn (hc pins s σ H _ I h) fun d s1 ⟨H1, I1, q1⟩ => ?_)
  cases d with
  | true => exact ha pins s1 σ H1 D I1 q1
  | false => exact hb pins s1 σ H1 D I1 q1
end
abbrev TG := V → St → Hp → (St → Hp → Prop) → Prop
abbrev TGs := List V → St → Hp → (St → Hp → Prop) → Prop
def PG (X : Cx) (target : Expr) (t : TG) : Prop :=
  ∀ (pins : List (Addr × Obj)) (s : Shared) (σ : St) (H : Hp) (v : V) (u : Value) (Q : St → Hp → Prop), Inv X pins σ H s → RelV v u → t v σ H Q →
    wpAny (model X.prog X.w) X.A (assign target X.env u) (fun _ s' => ∃ σ' H', Inv X pins σ' H' s' ∧ Q σ' H') X.xe s
def PGs (X : Cx) (ts : List Expr) (t : TGs) : Prop :=
  ∀ (pins : List (Addr × Obj)) (s : Shared) (σ : St) (H : Hp) (vs : List V) (us : List Value) (Q : St → Hp → Prop), Inv X pins σ H s → Vals vs us → t vs σ H Q →
    wpAny (model X.prog X.w) X.A (assignInOrder ((assignEach ts X.env).map (·.2)) us) (fun _ s' => ∃ σ' H', Inv X pins σ' H' s' ∧ Q σ' H') X.xe s
abbrev TSet := V → V → V → Hp → (Hp → Prop) → Prop
def PSet (X : Cx) (t : TSet) : Prop :=
  ∀ (pins : List (Addr × Obj)) (s : Shared) (σ : St) (H : Hp) (o i v : V) (ov iv u : Value) (Q : Hp → Prop), Inv X pins σ H s → RelV o ov → RelV i iv → RelV v u → t o i v H Q →
    wpAny (model X.prog X.w) X.A (setItem ov iv u) (fun _ s' => ∃ H', Inv X pins σ H' s' ∧ Q H') X.xe s
abbrev TIp := V → V → Hp → VK → Prop
def PIp (X : Cx) (op : Operator) (t : TIp) : Prop :=
  ∀ (pins : List (Addr × Obj)) (s : Shared) (σ : St) (H : Hp) (x y : V) (v u : Value) (Q : VK), Inv X pins σ H s → RelV x v → RelV y u → t x y H Q →
    wpAny (model X.prog X.w) X.A (inplaceOp op v u) (EP X pins σ Q) X.xe s
section
variable {X : Cx} {pos : Pos}
def gName (i : Nat) : TG := fun v σ H Q => Q (σ.set i (some v)) H
theorem pg_name {i : Nat} {x : Str} (hN : X.N.Nodup) (hi : X.N[i]? = some x) (hx : Loc X.env.scope x) (hf : X.fn x = true ∨ X.env.scope.names.lookup x = some .local := by first | exact .inl rfl | exact .inr rfl | assumption) : PG X (.Name x pos) (gName i) := by
  intro pins s σ H v u Q I r h
  exact wpAny_assign_Name (store_ok I hN hi hx r (fun s' I' => ⟨_, H, I', h⟩) hf)
def gNil : TGs := fun vs σ H Q => vs = [] ∧ Q σ H
def gCons (t : TG) (u : TGs) : TGs := fun vs σ H Q => ∃ v r, vs = v :: r ∧ t v σ H fun σ' H' => u r σ' H' Q
theorem pgs_nil : PGs X [] gNil := by
  intro pins s σ H vs us Q I r h
  obtain ⟨e, h⟩ := h
  subst e
  cases r
  exact assignInOrder_nil ⟨σ, H, I, h⟩
theorem pgs_cons {e : Expr} {es : List Expr} {t : TG} {u : TGs} (h1 : PG X e t) (h2 : PGs X es u)
    (hs : (assignEach (e :: es) X.env).map (·.2) = assign e X.env :: (assignEach es X.env).map (·.2) := by rfl) : PGs X (e :: es) (gCons t u) := by
  intro pins s σ H vs us Q I r h
  obtain ⟨v, vr, e1, h⟩ := h
  subst e1
  cases r with
  | cons r rr =>
    rw [hs]
    refine assignInOrder_cons (thn (h1 pins s σ H _ _ _ I r h) fun _ s1 ⟨σ1, H1, I1, q1⟩ => ?_)
    exact h2 pins s1 σ1 H1 _ _ Q I1 rr q1
def gTup (K : PySem.W.Frag) (n : Nat) (t : TGs) : TG := fun v σ H Q => ∃ a xs, v = .ref a ∧ SqT K H a xs ∧ xs.length = n ∧ t xs σ H Q
theorem pg_tup {es : List Expr} {k : Nat} {t : TGs} {n : Nat} (hc : X.calm = true) (h : PGs X es t)
    (hn : (assignEach es X.env).length = n := by rfl) (hst : (assignEach es X.env).findIdx? (·.1) = none := by rfl) : PG X (.Tuple es k pos) (gTup X.K n t) := by
  intro pins s σ H v u Q I r hw
  obtain ⟨a, xs, e1, hq, hl, hw⟩ := hw
  subst e1
  cases r
  obtain ⟨its, rv, ht, hz⟩ := I.tuple hq
  refine assign_Tuple_tuple (I.ok.hd hc) ht (by simp [hn, ← hl, rv.length]) hst fun h' hx => ?_
  have I1 : Inv X pins σ H { s with heap := h' } := I.kept (t' := s.toks) fun b o e => hx b o (Nat.ne_of_lt (Heap.lt_size e)) e
  exact h pins _ σ H xs _ Q I1 (by simpa using rv) hw
def gSub (to ti : TE) (t : TSet) : TG := fun v σ H Q => to σ H fun o H1 => ti σ H1 fun i H2 => t o i v H2 fun H3 => Q σ H3
theorem pg_sub {o i : Expr} {to ti : TE} {t : TSet} (ho : PE X o to) (hi : PE X i ti) (hs : PSet X t)
    (ha : ∀ v, assign (.Subscript o i pos) X.env v = (do
      let ov ← holding [v] (eval o X.env)
      let iv ← holding [v, ov] (eval i X.env)
      standAt pos
      holding [v, ov, iv] (setItem ov iv v)
      release [v, ov, iv] []) := by intro _; rfl) : PG X (.Subscript o i pos) (gSub to ti t) := by
  intro pins s σ H v u Q I r h
  rw [ha]
  refine wpAny_bind (wpAny_holding (thn (ho pins s σ H _ I h) fun ov s1 ⟨x, H1, I1, r1, q1⟩ => ?_))
  refine wpAny_bind (wpAny_holding (thn (hi pins s1 σ H1 _ I1 q1) fun iv s2 ⟨y, H2, I2, r2, q2⟩ => ?_))
  refine wpAny_bind (wpAny_standAt (wpAny_bind (wpAny_holding (thn (hs pins s2 σ H2 x y v ov iv u _ I2 r1 r2 r q2) fun _ s3 ⟨H3, I3, q3⟩ => ?_))))
  exact wpAny_release ⟨σ, H3, I3, q3⟩
def tAsg (te : TE) (g : TG) : TS := fun D σ H => te σ H fun x H1 => g x σ H1 D.nx
theorem ps_asg {tg e : Expr} {te : TE} {g : TG} (he : PE X e te) (hg : PG X tg g) (hs : swapsWithSole [tg] e pos.line X.env = pure false := by rfl) (hw : swappedStores [tg] e X.env = pure none := by rfl)
    (h1 : (assignEach [tg] X.env).map (·.2) = [assign tg X.env] := by rfl) : PS X (.Assign [tg] e pos) (tAsg te g) := by
  intro pins s σ H D I h
  refine wpAny_Assign_stores (thn (he pins s σ H _ I h) fun v s1 ⟨x, H1, I1, r1, q1⟩ => ?_) hs hw
  rw [h1]
  exact thn (hg pins s1 σ H1 x v _ I1 r1 q1) fun _ s2 q => q
theorem ps_set {i : Nat} {x : Str} {e : Expr} {te : TE} {pos' : Pos} (hN : X.N.Nodup) (hi : X.N[i]? = some x) (hx : Loc X.env.scope x) (he : PE X e te) (hs : swapsWith e (some (.Name x pos')) pos.line X.env = pure false := by rfl) (hf : X.fn x = true ∨ X.env.scope.names.lookup x = some .local := by first | exact .inl rfl | exact .inr rfl | assumption) :
    PS X (.Assign [.Name x pos'] e pos) (tAsg te (gName i)) := by
  intro pins s σ H D I h
  refine wpAny_Assign_Name (thn (he pins s σ H _ I h) fun v s1 ⟨y, H1, I1, r1, q1⟩ => ?_) hs
  exact store_ok I1 hN hi hx r1 (fun s2 I2 => ⟨_, H1, I2, q1⟩) hf
def tAugS (to ti te : TE) (tget : V → V → Hp → VK → Prop) (tip : TIp) (tset : TSet) : TS := fun D σ H => to σ H fun o H1 => ti σ H1 fun i H2 => tget o i H2 fun x H3 => te σ H3 fun y H4 => tip x y H4 fun z H5 => tset o i z H5 fun H6 => D.nx σ H6
def PGet (X : Cx) (t : V → V → Hp → VK → Prop) : Prop :=
  ∀ (pins : List (Addr × Obj)) (s : Shared) (σ : St) (H : Hp) (o i : V) (ov iv : Value) (Q : VK), Inv X pins σ H s → RelV o ov → RelV i iv → t o i H Q →
    wpAny (model X.prog X.w) X.A (getItem ov iv) (EP X pins σ Q) X.xe s
theorem ps_augS {o i e : Expr} {to ti te : TE} {tget : V → V → Hp → VK → Prop} {tip : TIp} {tset : TSet} {op : Operator} {tpos : Pos} (ho : PE X o to) (hi : PE X i ti) (hg : PGet X tget) (he : PE X e te) (hp : PIp X op tip) (hs : PSet X tset)
    (ha : ∀ ov iv new, augStore i ov iv new = (do holding [new, ov, iv] (setItem ov iv new); release [new, ov, iv] []; pure .next) := by intros; rfl) : PS X (.AugAssign (.Subscript o i tpos) op e pos) (tAugS to ti te tget tip tset) := by
  intro pins s σ H D I h
  refine wpAny_AugAssign_SubscriptAny (thn (ho pins s σ H _ I h) fun ov s1 ⟨x1, H1, I1, r1, q1⟩ => ?_) ha
  refine thn (hi pins s1 σ H1 _ I1 q1) fun iv s2 ⟨x2, H2, I2, r2, q2⟩ => ?_
  refine thn (hg pins s2 σ H2 x1 x2 ov iv _ I2 r1 r2 q2) fun old s3 ⟨x3, H3, I3, r3, q3⟩ => ?_
  refine thn (he pins s3 σ H3 _ I3 q3) fun v s4 ⟨x4, H4, I4, r4, q4⟩ => ?_
  refine thn (hp pins s4 σ H4 x3 x4 old v _ I4 r3 r4 q4) fun new s5 ⟨x5, H5, I5, r5, q5⟩ => ?_
  exact thn (hs pins s5 σ H5 x1 x2 x5 ov iv new _ I5 r1 r2 r5 q5) fun _ s6 ⟨H6, I6, q6⟩ => ⟨σ, H6, I6, q6⟩
def ipI (f : Int → Int → Int) : TIp := fun x y H Q => ∃ i j, x = .int i ∧ y = .int j ∧ Q (.int (f i j)) H
theorem ip_add : PIp X .Add (ipI fun i j => i + j) := by
  intro pins s σ H x y v u Q I r1 r2 h
  obtain ⟨i, j, e1, e2, q⟩ := h
  subst e1; subst e2
  obtain ⟨t, rfl⟩ := r1
  obtain ⟨t', rfl⟩ := r2
  exact iadd_int ⟨.int _, H, I.tok _, ⟨_, rfl⟩, q⟩
end
section
variable {X : Cx} {pos : Pos}
end
structure It where
  go : Nat → Hp → Prop
  yld : Nat → Hp → V → Hp → Prop
  stop : Nat → Hp → Prop
def FpOk (X : Cx) (pins : List (Addr × Obj)) (H : Hp) (b : Addr) : Prop :=
  H b = none ∧ b ≠ X.env.locals ∧ b ∉ X.fs ∧ (b ∈ X.ex ∨ X.s₀.heap.objs.size ≤ b) ∧ (∀ x c, X.env.cells.lookup x = some c → c ≠ b) ∧ ∀ p ∈ X.pn ++ pins, p.1 ≠ b
theorem Inv.fpOk {X : Cx} {pins : List (Addr × Obj)} {σ : St} {H H' : Hp} {s : Shared} {b : Addr} (I : Inv X pins σ H s) (hb : s.heap.objs.size ≤ b) (hn : H' b = none) : FpOk X pins H' b := by
  refine ⟨hn, Nat.ne_of_gt (Nat.lt_of_lt_of_le I.lt hb), I.nofs hb, .inr (Nat.le_trans I.sz hb), fun x c e z => ?_, fun p hp z => ?_⟩
  · obtain ⟨v, q⟩ := I.cell x c e
    exact absurd (Nat.lt_of_lt_of_le q.lt (by rw [z]; exact hb)) (Nat.lt_irrefl _)
  · exact absurd (Nat.lt_of_lt_of_le (Heap.lt_size (I.pin p hp).1) (by rw [z]; exact hb)) (Nat.lt_irrefl _)
structure Turn (P : Program) (w : World) (K : PySem.W.Frag) (tg : Expr) (J : It) (fp : List Addr) (it : Addr) (tn : Nat → Heap → Prop) : Prop where
  mem : it ∈ fp
  obj : ∀ i h, tn i h → ∀ b ∈ fp, ∃ o, h.get? b = some o ∧ ∀ v, o.data ≠ .cell v
  keep : ∀ i h h', tn i h → (∀ b ∈ fp, ∀ o, h.get? b = some o → h'.get? b = some o) → tn i h'
  item : ∀ (X : Cx), X.prog = P → X.w = w → X.K = K → X.calm = true → ∀ (i : Nat) (pins : List (Addr × Obj)) (s : Shared) (σ : St) (H : Hp) (E : Value → Shared → Prop), Inv X pins σ H s → (∀ b ∈ fp, FpOk X pins H b) → tn i s.heap → J.go i H →
    wpAny (model P w) X.A (pyNext (.ref it)) (fun r s1 => ∃ u, r = some u ∧
      wpAny (model P w) X.A (letOwnedTupleGo tg (.ref it) u) (fun _ s2 => ∃ x H', Inv X pins σ H' s2 ∧ RelV x u ∧ J.yld i H x H' ∧ tn (i + 1) s2.heap ∧ ∀ b ∈ fp, H' b = none) E s1) E s
  done : ∀ (X : Cx), X.prog = P → X.w = w → X.K = K → X.calm = true → ∀ (i : Nat) (pins : List (Addr × Obj)) (s : Shared) (σ : St) (H : Hp) (E : Value → Shared → Prop), Inv X pins σ H s → (∀ b ∈ fp, FpOk X pins H b) → tn i s.heap → J.stop i H →
    wpAny (model P w) X.A (pyNext (.ref it)) (fun r s1 => r = none ∧ Inv X pins σ H s1) E s
  self : ∀ (A : Around) (i : Nat) (s : Shared) (Q : Value → Shared → Prop) (E : Value → Shared → Prop), tn i s.heap → Q (.ref it) s → wpAny (model P w) A (pyIter (.ref it)) Q E s
abbrev TI := St → Hp → (It → Hp → Prop) → Prop
def PIE (X : Cx) (pins : List (Addr × Obj)) (σ : St) (tg : Expr) (R : It → Hp → Prop) (itv : Value) (s2 : Shared) : Prop :=
  ∃ (it : Addr) (fp : List Addr) (tn : Nat → Heap → Prop) (J : It) (H' : Hp), itv = .ref it ∧ Inv X pins σ H' s2 ∧ Turn X.prog X.w X.K tg J fp it tn ∧ tn 0 s2.heap ∧ (∀ b ∈ fp, FpOk X pins H' b) ∧ R J H'
def PI (X : Cx) (tg iter : Expr) (wi : TI) : Prop :=
  ∀ (pins : List (Addr × Obj)) (s : Shared) (σ : St) (H : Hp) (R : It → Hp → Prop), Inv X pins σ H s → wi σ H R →
    wpAny (model X.prog X.w) X.A (eval iter X.env) (fun v s1 => wpAny (model X.prog X.w) X.A (pyIter v) (PIE X pins σ tg R) X.xe s1) X.xe s
theorem go_of {M : Model} {A : Around} {E : Value → Shared → Prop} {s : Shared} {tg : Expr} {it : Addr} {u : Value} {o : Obj} {n : String} {vs : Array Value} {Q : Unit → Shared → Prop} (ho : s.heap.get? it = some o) (hc : o.cls = .type n) (hd : o.data = .fields vs)
    (hn : ["enumerate", "zip", "dict_itemiterator", "dict_reverseitemiterator", "odict_iterator", "itertools.zip_longest", "itertools.pairwise"].contains n = false) (hQ : Q () s) : wpAny M A (letOwnedTupleGo tg (.ref it) u) Q E s := by
  unfold letOwnedTupleGo
  cases tg <;> first
    | exact wpAny_pure hQ
    | (cases u <;> first
        | exact wpAny_pure hQ
        | (refine wpAny_bind (wpAny_load ho ?_)
           rw [hc, hd]
           show wpAny M A (if (["enumerate", "zip", "dict_itemiterator", "dict_reverseitemiterator", "odict_iterator", "itertools.zip_longest", "itertools.pairwise"].contains n && vs[0]? == some (rawInt _)) = true then _ else _) Q E s
           rw [if_neg (by intro h; rw [hn, Bool.false_and] at h; cases h)]
           exact wpAny_pure hQ))
def Itl (K : PySem.W.Frag) (a : Addr) : It :=
  ⟨fun i H => ∃ xs x, SqL K H a xs ∧ xs[i]? = some x, fun i H x H' => H' = H ∧ ∀ xs, SqL K H a xs → xs[i]? = some x, fun i H => ∃ xs, SqL K H a xs ∧ xs.length ≤ i⟩
def Itr (lo : Int) (n : Nat) : It := ⟨fun i _ => i < n, fun i H x H' => H' = H ∧ x = .int (lo + i), fun i _ => n ≤ i⟩
theorem turn_list {P : Program} {w : World} {K : PySem.W.Frag} {tg : Expr} (a it : Addr) : Turn P w K tg (Itl K a) [it] it (fun i h => h.IsListIter it a i) where
  mem := by simp
  obj := fun i h st b hb => by
    have e : b = it := by simpa using hb
    subst e
    obtain ⟨o, e, c, d⟩ := st
    exact ⟨o, e, fun v z => by rw [d] at z; cases z⟩
  keep := fun i h h' st k => st.at fun o e => k it (by simp) o e
  item := by
    intro X hP hw hK hc i pins s σ H E I hf st hg
    subst hP hw hK
    obtain ⟨xs, x, hq, hx⟩ := hg
    obtain ⟨its, rv, p, hz⟩ := I.list hq
    obtain ⟨u, hu, ru⟩ := rv.get hx
    obtain ⟨f0, f1, f2, f3, f4, f5⟩ := hf it (by simp)
    refine wpAny_pyNext_list_item st p.isList (x := u) (by simpa using hu) fun h' st' sb => ?_
    have I1 : Inv X pins σ H { s with heap := h' } := I.turned (t' := s.toks) (fun b o hb e => (sb.2 b hb).trans e) f0 f1 f3 f4 f5
    obtain ⟨o, e, c, d⟩ := id st'
    exact ⟨u, rfl, go_of (s := { s with heap := h' }) e c d (by decide) ⟨x, H, I1, ru, ⟨rfl, fun ys hy => by rw [I.list_inj hy hq]; exact hx⟩, st', fun b hb => (hf b hb).1⟩⟩
  done := by
    intro X hP hw hK hc i pins s σ H E I hf st hg
    subst hP hw hK
    obtain ⟨xs, hq, hx⟩ := hg
    obtain ⟨its, rv, p, hz⟩ := I.list hq
    obtain ⟨f0, f1, f2, f3, f4, f5⟩ := hf it (by simp)
    have hl := rv.length
    exact wpAny_pyNext_list_end (I.ok.hd hc) st p.isList (by simp; omega) fun h' eb => ⟨rfl, I.turned (t' := s.toks) (fun b o hb e => eb b o hb e) f0 f1 f3 f4 f5⟩
  self := fun _ _ _ _ _ st h => wpAny_pyIter_listiter st h
theorem turn_range {P : Program} {w : World} {K : PySem.W.Frag} {tg : Expr} (it : Addr) (lo : Int) (n : Nat) : Turn P w K tg (Itr lo n) [it] it (fun i h => IsRangeIter h it (lo + (i : Nat) * 1) ((n : Int) - (i : Nat)) 1) where
  mem := by simp
  obj := fun i h st b hb => by
    have e : b = it := by simpa using hb
    subst e
    exact ⟨_, st, fun v z => by
      have z' : Data.fields _ = Data.cell v := z
      cases z'⟩
  keep := fun i h h' st k => k it (by simp) _ st
  item := by
    intro X hP hw hK hc i pins s σ H E I hf st hg
    subst hP hw hK
    obtain ⟨f0, f1, f2, f3, f4, f5⟩ := hf it (by simp)
    have W := Walks.range (prog := X.prog) (w := X.w) (I.ok.hd hc) it lo 1 n
    refine W.item i s _ _ hg st fun v h' tk hv st' kk => ?_
    obtain ⟨t, rfl⟩ := hv
    have I1 : Inv X pins σ H { s with heap := h', toks := tk } := I.turned (fun b o hb e => kk b o (by simpa using hb) e) f0 f1 f3 f4 f5
    refine ⟨_, rfl, go_of (s := { s with heap := h', toks := tk }) (n := "range_iterator") st' rfl rfl (by decide) ⟨.int (lo + i), H, I1, ⟨t, ?_⟩, ⟨rfl, rfl⟩, st', fun b hb => (hf b hb).1⟩⟩
    rw [Int.mul_one]
  done := by
    intro X hP hw hK hc i pins s σ H E I hf st hg
    subst hP hw hK
    obtain ⟨f0, f1, f2, f3, f4, f5⟩ := hf it (by simp)
    exact wpAny_pyNext_range_end (I.ok.hd hc) st (by have : n ≤ i := hg; omega) fun h' eb => ⟨rfl, I.turned (t' := s.toks) (fun b o hb e => eb b o hb e) f0 f1 f3 f4 f5⟩
  self := fun _ _ _ _ _ st h => wpAny_pyIter_rangeiter st h
end L2
namespace L2
open PySem PySem.Spec PyProof.Rows
section
variable {X : Cx} {tg : Expr}
def iList (K : PySem.W.Frag) (tl : TE) : TI := fun σ H R => tl σ H fun x H1 => ∃ a, x = .ref a ∧ (∃ xs, SqL K H1 a xs) ∧ R (Itl K a) H1
theorem pi_list {l : Expr} {tl : TE} (hl : PE X l tl) : PI X tg l (iList X.K tl) := by
  intro pins s σ H R I h
  refine thn (hl pins s σ H _ I h) fun v s1 ⟨x, H1, I1, r1, q1⟩ => ?_
  obtain ⟨a, e, ⟨xs, hq⟩, q⟩ := q1
  subst e
  cases r1
  obtain ⟨its, rv, p, hz⟩ := I1.list hq
  refine wpAny_pyIter_list p.isList ?_
  refine ⟨s1.heap.objs.size, [s1.heap.objs.size], _, _, H1, rfl, I1.kept (t' := s1.toks) fun b o e => Heap.get?_push_of_some _ e, turn_list a _, ⟨_, Heap.get?_push_size _ rfl, rfl, rfl⟩, fun b hb => ?_, q⟩
  have e : b = s1.heap.objs.size := by simpa using hb
  subst e
  exact I1.fpOk (Nat.le_refl _) (I1.hok.fresh (Nat.le_refl _))
theorem range_it {pins : List (Addr × Obj)} {σ : St} {H : Hp} {s : Shared} {R : It → Hp → Prop} {E : Value → Shared → Prop} {lo hi : Int} {t u v : Tok} {tk : Nat} (I : Inv X pins σ H s) (h1 : -(2 ^ 62) ≤ lo) (h2 : lo < 2 ^ 62) (h3 : -(2 ^ 62) ≤ hi) (h4 : hi < 2 ^ 62)
    (q : R (Itr lo (hi - lo).toNat) H) : wpAny (model X.prog X.w) X.A (pyIter (.ref s.heap.objs.size)) (PIE X pins σ tg R) E { s with heap := s.heap.push { cls := .type "range", data := .fields #[.int lo t, .int hi u, .int 1 v] }, toks := tk } := by
  refine wpAny_pyIter_range (IsRange.new ..) (small_one h1 h2 h3 h4) ?_
  have I1 : Inv X pins σ H { s with heap := s.heap.push { cls := .type "range", data := .fields #[.int lo t, .int hi u, .int 1 v] }, toks := tk } := I.kept fun b o e => Heap.get?_push_of_some _ e
  refine ⟨(s.heap.push { cls := .type "range", data := .fields #[.int lo t, .int hi u, .int 1 v] }).objs.size, [(s.heap.push { cls := .type "range", data := .fields #[.int lo t, .int hi u, .int 1 v] }).objs.size], _, _, H, rfl,
    I1.kept (t' := tk) fun b o e => Heap.get?_push_of_some _ e, turn_range _ lo (hi - lo).toNat, ?_, fun b hb => ?_, q⟩
  · have e1 : lo + ((0 : Nat) : Int) * 1 = lo := by simp
    have e2 : (((hi - lo).toNat : Nat) : Int) - ((0 : Nat) : Int) = Builtin.Range.rangeSize lo hi 1 := by rw [rangeSize_one]; split <;> omega
    show IsRangeIter _ _ (lo + ((0 : Nat) : Int) * 1) ((((hi - lo).toNat : Nat) : Int) - ((0 : Nat) : Int)) 1
    rw [e1, e2]
    exact Heap.get?_push_size _ rfl
  · have e : b = (s.heap.push { cls := .type "range", data := .fields #[.int lo t, .int hi u, .int 1 v] }).objs.size := by simpa using hb
    subst e
    exact I1.fpOk (Nat.le_refl _) (I1.hok.fresh (Nat.le_refl _))
def iRng1 (ta : TA) : TI := fun σ H R => ta σ H fun vs H1 => ∃ j : Int, vs = [.int j] ∧ -(2 ^ 62) ≤ j ∧ j < 2 ^ 62 ∧ R (Itr 0 j.toNat) H1
theorem pi_range1 {a : Expr} {ta : TA} {p pos : Pos} (hg : Gl X "range") (hm : X.mg "range" = none) (ha : PA X [a] ta) (hs : starEach [a] X.env = [(false, eval a X.env)] := by rfl) : PI X tg (.Call (.Name "range" p) [a] [] pos) (iRng1 ta) := by
  intro pins s σ H R I h
  refine Call_ (ld_blt I hg hm boot_range (PyProof.Rows.callWith_type1 (thn (ha pos pins s σ H _ I h) fun us s1 ⟨vs, H1, I1, r1, q1⟩ => ?_) hs rfl))
  obtain ⟨j, e, q1, q2, q⟩ := q1
  subst e
  cases r1 with
  | cons r rr =>
    cases rr
    obtain ⟨t, rfl⟩ := r
    exact call_range_1 (range_it I1 (by omega) (by omega) q1 q2 (by simpa using q))
def tFor (wi : TI) (g : TG) (tb : TS) : TS := fun D σ H => wi σ H fun J H1 => ∃ W : Nat → Nat → St → Hp → Prop, (∃ m, W 0 m σ H1) ∧ ∀ i m σ H, W i m σ H →
  (J.stop i H ∧ D.nx σ H) ∨ (J.go i H ∧ ∃ N : St → Hp → Prop, (∀ σ' H', N σ' H' → ∃ m', m' < m ∧ W (i + 1) m' σ' H') ∧ ∀ x H', J.yld i H x H' → g x σ H' fun σ2 H2 => tb { D with nx := N, ct := N, bk := D.nx } σ2 H2)
def pinsAt (fp : List Addr) (h : Heap) : List (Addr × Obj) := fp.filterMap fun b => (h.get? b).map fun o => (b, o)
theorem mem_pinsAt {fp : List Addr} {h : Heap} {b : Addr} {o : Obj} (hb : b ∈ fp) (e : h.get? b = some o) : (b, o) ∈ pinsAt fp h := List.mem_filterMap.mpr ⟨b, hb, by rw [e]; rfl⟩
theorem of_pinsAt {fp : List Addr} {h : Heap} {p : Addr × Obj} (hp : p ∈ pinsAt fp h) : p.1 ∈ fp ∧ h.get? p.1 = some p.2 := by
  obtain ⟨b, hb, e⟩ := List.mem_filterMap.mp hp
  cases q : h.get? b with
  | none => rw [q] at e; cases e
  | some o =>
    rw [q] at e
    have e' : (b, o) = p := Option.some.inj e
    subst e'
    exact ⟨hb, q⟩
theorem Inv.pinned {pins : List (Addr × Obj)} {σ : St} {H : Hp} {s : Shared} {fp : List Addr} (I : Inv X pins σ H s) (hf : ∀ b ∈ fp, FpOk X pins H b) (ho : ∀ b ∈ fp, ∃ o, s.heap.get? b = some o ∧ ∀ v, o.data ≠ .cell v) : Inv X (pins ++ pinsAt fp s.heap) σ H s :=
  I.pins_of fun p hp => (List.mem_append.mp hp).elim (fun z => I.pin p (List.mem_append_right _ z)) fun z => by
    obtain ⟨hb, e⟩ := of_pinsAt z
    obtain ⟨f0, f1, f2, _⟩ := hf p.1 hb
    obtain ⟨o, e', d⟩ := ho p.1 hb
    rw [e] at e'; cases e'
    exact ⟨e, f0, f1, f2, d⟩
theorem Inv.unpinned {pins pl : List (Addr × Obj)} {σ : St} {H : Hp} {s : Shared} (I : Inv X (pins ++ pl) σ H s) : Inv X pins σ H s := I.pins_of fun p hp => I.pin p (List.mem_append_right _ (List.mem_append_left _ hp))
theorem ps_for {iter : Expr} {body : List Stmt} {wi : TI} {g : TG} {tb : TS} {pos : Pos} (hp : PassesOwn (model X.prog X.w) X.A X.env X.xe) (hc : X.calm = true) (hi : PI X tg iter wi) (hg : PG X tg g) (hb : PSs X body tb)
    (hs : ∀ x, foldedSetIterable iter X.env x = pure x := by intro _; rfl) : PS X (.For tg iter body [] pos) (tFor wi g tb) := by
  intro pins s σ H D I h
  refine wpAny_For (thn (hi pins s σ H _ I h) fun v s1 h1 => thn h1 fun itv s2 h2 => ?_) hs
  obtain ⟨it, fp, tn, J, H2, e, I2, T, st2, f2, W, ⟨m0, w0⟩, turn⟩ := h2
  subst e
  -- what stays true of the iterator's objects through the loop
  have stat : ∀ {H' : Hp}, (∀ b ∈ fp, H' b = none) → ∀ b ∈ fp, FpOk X pins H' b := fun hn b hb => ⟨hn b hb, (f2 b hb).2⟩
  refine codeAny_forLoop_any (fun n s' => ∃ i σ' H', Inv X pins σ' H' s' ∧ tn i s'.heap ∧ (∀ b ∈ fp, H' b = none) ∧ W i n σ' H') ?_ m0 ⟨0, σ, H2, I2, st2, fun b hb => (f2 b hb).1, w0⟩
  rintro n s3 ⟨i, σ3, H3, I3, st3, fr3, w3⟩
  rcases turn i n σ3 H3 w3 with ⟨stop, qn⟩ | ⟨go, N, hN, step⟩
  · refine wpAny_passesOwn hp (thn (T.done X rfl rfl rfl hc i pins s3 σ3 H3 X.xe I3 (stat fr3) st3 stop) fun r s4 ⟨hr, I4⟩ => ?_)
    subst hr
    exact wpAny_execs_nil ⟨σ3, H3, I4, qn⟩
  · refine wpAny_passesOwn hp (thn (T.item X rfl rfl rfl hc i pins s3 σ3 H3 X.xe I3 (stat fr3) st3 go) fun r s4 ⟨u, hr, h4⟩ => ?_)
    subst hr
    refine wpAny_passesOwn hp (thn h4 fun _ s5 ⟨x, H5, I5, r5, y5, st5, fr5⟩ => ?_)
    have I5' := I5.pinned (stat fr5) (T.obj _ _ st5)
    refine wpAny_passesOwn hp (thn (hg _ s5 σ3 H5 x u _ I5' r5 (step x H5 y5)) fun _ s6 ⟨σ6, H6, I6, q6⟩ => ?_)
    refine wpAny_passesOwn hp (thn (hb _ s6 σ6 H6 _ I6 q6) fun f s7 q7 => ?_)
    have again : ∀ {σ7 : St} {H7 : Hp}, Inv X (pins ++ pinsAt fp s5.heap) σ7 H7 s7 → N σ7 H7 → ∃ m, m < n ∧ ∃ i σ' H', Inv X pins σ' H' s7 ∧ tn i s7.heap ∧ (∀ b ∈ fp, H' b = none) ∧ W i m σ' H' := fun {σ7 H7} I7 n7 => by
      obtain ⟨m', hm, w7⟩ := hN σ7 H7 n7
      refine ⟨m', hm, i + 1, σ7, H7, I7.unpinned, T.keep _ _ _ st5 fun b hb o e => (I7.pin (b, o) (List.mem_append_right _ (List.mem_append_right _ (mem_pinsAt hb e)))).1, fun b hb => ?_, w7⟩
      obtain ⟨o, e, d⟩ := T.obj _ _ st5 b hb
      exact (I7.pin (b, o) (List.mem_append_right _ (List.mem_append_right _ (mem_pinsAt hb e)))).2.1
    cases f with
    | next => obtain ⟨σ7, H7, I7, n7⟩ := q7; exact again I7 n7
    | cont => obtain ⟨σ7, H7, I7, n7⟩ := q7; exact again I7 n7
    | brk => obtain ⟨σ7, H7, I7, q7⟩ := q7; exact ⟨σ7, H7, I7.unpinned, q7⟩
    | ret v => obtain ⟨x7, σ7, H7, I7, r7, q7⟩ := q7; exact ⟨x7, σ7, H7, I7.unpinned, r7, q7⟩
end
theorem for_list {K : PySem.W.Frag} {a : Addr} {xs : List V} {g : TG} {tb : TS} {D : Ends} {σ : St} {H : Hp} (Pv : Nat → St → Hp → Prop) (h0 : Pv 0 σ H) (hl : ∀ i σ H, i ≤ xs.length → Pv i σ H → SqL K H a xs)
    (hs : ∀ i x σ H, xs[i]? = some x → Pv i σ H → g x σ H fun σ2 H2 => tb { D with nx := Pv (i + 1), ct := Pv (i + 1), bk := D.nx } σ2 H2) (hd : ∀ σ H, Pv xs.length σ H → D.nx σ H) :
    ∃ W : Nat → Nat → St → Hp → Prop, (∃ m, W 0 m σ H) ∧ ∀ i m σ H, W i m σ H →
      ((Itl K a).stop i H ∧ D.nx σ H) ∨ ((Itl K a).go i H ∧ ∃ N : St → Hp → Prop, (∀ σ' H', N σ' H' → ∃ m', m' < m ∧ W (i + 1) m' σ' H') ∧ ∀ x H', (Itl K a).yld i H x H' → g x σ H' fun σ2 H2 => tb { D with nx := N, ct := N, bk := D.nx } σ2 H2) := by
  refine ⟨fun i m σ H => m = xs.length - i ∧ i ≤ xs.length ∧ Pv i σ H, ⟨xs.length, by simp, Nat.zero_le _, h0⟩, ?_⟩
  rintro i m σ H ⟨rfl, hi, p⟩
  have q := hl i σ H hi p
  by_cases hlt : i < xs.length
  · refine .inr ⟨⟨xs, xs[i], q, by simp [hlt]⟩, Pv (i + 1), fun σ' H' p' => ⟨xs.length - (i + 1), by omega, rfl, hlt, p'⟩, fun x H' y => ?_⟩
    obtain ⟨e, y⟩ := y
    subst e
    exact hs i x σ _ (y xs q) p
  · have e : i = xs.length := by omega
    subst e
    exact .inl ⟨⟨xs, q, Nat.le_refl _⟩, hd σ H p⟩
theorem for_range {lo : Int} {n : Nat} {g : TG} {tb : TS} {D : Ends} {σ : St} {H : Hp} (Pv : Nat → St → Hp → Prop) (h0 : Pv 0 σ H)
    (hs : ∀ i σ H, i < n → Pv i σ H → g (.int (lo + i)) σ H fun σ2 H2 => tb { D with nx := Pv (i + 1), ct := Pv (i + 1), bk := D.nx } σ2 H2) (hd : ∀ σ H, Pv n σ H → D.nx σ H) :
    ∃ W : Nat → Nat → St → Hp → Prop, (∃ m, W 0 m σ H) ∧ ∀ i m σ H, W i m σ H →
      ((Itr lo n).stop i H ∧ D.nx σ H) ∨ ((Itr lo n).go i H ∧ ∃ N : St → Hp → Prop, (∀ σ' H', N σ' H' → ∃ m', m' < m ∧ W (i + 1) m' σ' H') ∧ ∀ x H', (Itr lo n).yld i H x H' → g x σ H' fun σ2 H2 => tb { D with nx := N, ct := N, bk := D.nx } σ2 H2) := by
  refine ⟨fun i m σ H => m = n - i ∧ i ≤ n ∧ Pv i σ H, ⟨n, by simp, Nat.zero_le _, h0⟩, ?_⟩
  rintro i m σ H ⟨rfl, hi, p⟩
  by_cases hlt : i < n
  · refine .inr ⟨hlt, Pv (i + 1), fun σ' H' p' => ⟨n - (i + 1), by omega, rfl, hlt, p'⟩, fun x H' y => ?_⟩
    obtain ⟨e, y⟩ := y
    subst e y
    exact hs i σ _ hlt p
  · have e : i = n := by omega
    subst e
    exact .inl ⟨Nat.le_refl _, hd σ H p⟩
end L2
namespace L2
open PySem PySem.Spec PyProof.Rows
abbrev R2 := V → V → Hp → VK → Prop
def OpR (X : Cx) (f : Value → Value → Sem Value) (r : R2) : Prop :=
  ∀ (pins : List (Addr × Obj)) (s : Shared) (σ : St) (H : Hp) (x y : V) (v u : Value) (Q : VK), Inv X pins σ H s → RelV x v → RelV y u → r x y H Q →
    wpAny (model X.prog X.w) X.A (f v u) (EP X pins σ Q) X.xe s
def UnR (X : Cx) (f : Value → Sem Value) (r : V → Hp → VK → Prop) : Prop :=
  ∀ (pins : List (Addr × Obj)) (s : Shared) (σ : St) (H : Hp) (x : V) (v : Value) (Q : VK), Inv X pins σ H s → RelV x v → r x H Q →
    wpAny (model X.prog X.w) X.A (f v) (EP X pins σ Q) X.xe s
def CallR (X : Cx) (f : Value) (r : List V → Hp → VK → Prop) : Prop :=
  ∀ (pins : List (Addr × Obj)) (s : Shared) (σ : St) (H : Hp) (xs : List V) (us : List Value) (Q : VK), Inv X pins σ H s → Vals xs us → r xs H Q →
    wpAny (model X.prog X.w) X.A (call f us) (EP X pins σ Q) X.xe s
def tOp (r : R2) (ta tb : TE) : TE := fun σ H Q => ta σ H fun x H1 => tb σ H1 fun y H2 => r x y H2 Q
def tUn (r : V → Hp → VK → Prop) (ta : TE) : TE := fun σ H Q => ta σ H fun x H1 => r x H1 Q
def rI (C : Int → Int → Prop) (g : Int → Int → V) : R2 := fun x y H Q => ∃ i j, x = .int i ∧ y = .int j ∧ C i j ∧ Q (g i j) H
def rI0 (g : Int → Int → V) : R2 := fun x y H Q => ∃ i j, x = .int i ∧ y = .int j ∧ Q (g i j) H
def rU (g : Int → V) : V → Hp → VK → Prop := fun x H Q => ∃ i, x = .int i ∧ Q (g i) H
section
variable {X : Cx} {a b c : Expr} {ta tb tc : TE} {pos : Pos}
theorem binT (ha : PE X a ta) (hb : PE X b tb) {pins : List (Addr × Obj)} {s : Shared} {σ : St} {H : Hp} {R : V → V → Hp → Prop} (I : Inv X pins σ H s)
    (h : ta σ H fun x H1 => tb σ H1 fun y H2 => R x y H2) {Q : Value → Shared → Prop} {f : Value → Value → Sem Value}
    (hf : ∀ v u s2 x y H2, Inv X pins σ H2 s2 → RelV x v → RelV y u → R x y H2 → wpAny (model X.prog X.w) X.A (f v u) Q X.xe s2) :
    wpAny (model X.prog X.w) X.A (eval a X.env) (fun v s₁ => wpAny (model X.prog X.w) X.A (eval b X.env) (fun u s₂ => wpAny (model X.prog X.w) X.A (f v u) Q X.xe s₂) X.xe s₁) X.xe s := by
  refine thn (ha pins s σ H _ I h) fun v s1 ⟨x, H1, I1, r1, q1⟩ => ?_
  refine thn (hb pins s1 σ H1 _ I1 q1) fun u s2 ⟨y, H2, I2, r2, q2⟩ => ?_
  exact hf v u s2 x y H2 I2 r1 r2 q2
theorem pe_op {op : Operator} {r : R2} (ho : OpR X (binaryOp op) r) (ha : PE X a ta) (hb : PE X b tb) : PE X (.BinOp a op b pos) (tOp r ta tb) := by
  intro pins s σ H Q I h
  exact wpAny_BinOp (binT ha hb I h fun v u s2 x y H2 I2 rx ry q => ho pins s2 σ H2 x y v u Q I2 rx ry q)
theorem pe_un {op : UnaryOp} {r : V → Hp → VK → Prop} (ho : UnR X (unaryOp op) r) (ha : PE X a ta) : PE X (.UnaryOp op a pos) (tUn r ta) := by
  intro pins s σ H Q I h
  exact UnaryOp_ (thn (ha pins s σ H _ I h) fun v s1 ⟨x, H1, I1, r1, q1⟩ => ho pins s1 σ H1 x v Q I1 r1 q1)
theorem opI {f : Value → Value → Sem Value} {C : Int → Int → Prop} {g : Int → Int → Int}
    (rule : ∀ (i j : Int) (t u : Tok) (s : Shared) (Q : Value → Shared → Prop) (E : Value → Shared → Prop), C i j → Q (.int (g i j) s.toks) { s with toks := s.toks + 1 } → wpAny (model X.prog X.w) X.A (f (.int i t) (.int j u)) Q E s) :
    OpR X f (rI C fun i j => .int (g i j)) := by
  intro pins s σ H x y v u Q I rx ry h
  obtain ⟨i, j, rfl, rfl, hc, q⟩ := h
  obtain ⟨t, rfl⟩ := rx
  obtain ⟨t', rfl⟩ := ry
  exact rule i j t t' s _ _ hc ⟨.int (g i j), H, I.tok _, ⟨_, rfl⟩, q⟩
theorem opI0 {f : Value → Value → Sem Value} {g : Int → Int → Int}
    (rule : ∀ (i j : Int) (t u : Tok) (s : Shared) (Q : Value → Shared → Prop) (E : Value → Shared → Prop), Q (.int (g i j) s.toks) { s with toks := s.toks + 1 } → wpAny (model X.prog X.w) X.A (f (.int i t) (.int j u)) Q E s) :
    OpR X f (rI0 fun i j => .int (g i j)) := by
  intro pins s σ H x y v u Q I rx ry h
  obtain ⟨i, j, rfl, rfl, q⟩ := h
  obtain ⟨t, rfl⟩ := rx
  obtain ⟨t', rfl⟩ := ry
  exact rule i j t t' s _ _ ⟨.int (g i j), H, I.tok _, ⟨_, rfl⟩, q⟩
theorem opB0 {f : Value → Value → Sem Value} {g : Int → Int → Bool}
    (rule : ∀ (i j : Int) (t u : Tok) (s : Shared) (Q : Value → Shared → Prop) (E : Value → Shared → Prop), Q (.bool (g i j)) s → wpAny (model X.prog X.w) X.A (f (.int i t) (.int j u)) Q E s) :
    OpR X f (rI0 fun i j => .bl (g i j)) := by
  intro pins s σ H x y v u Q I rx ry h
  obtain ⟨i, j, rfl, rfl, q⟩ := h
  obtain ⟨t, rfl⟩ := rx
  obtain ⟨t', rfl⟩ := ry
  exact rule i j t t' s _ _ ⟨.bl (g i j), H, I, rfl, q⟩
def CPow (i j : Int) : Prop := 0 ≤ j ∧ j ≤ 1000000 ∧ i.natAbs < 2 ^ 64
def CMul (i j : Int) : Prop := (-(2 ^ 64) < i ∧ i < 2 ^ 64) ∨ (-(2 ^ 64) < j ∧ j < 2 ^ 64)
theorem CMul.ok {i j : Int} (h : CMul i j) : IntMulOk i j := by
  rcases h with ⟨h1, h2⟩ | ⟨h1, h2⟩
  · exact .of_left (intBits_le_64 h1 h2)
  · exact .of_right (intBits_le_64 h1 h2)
theorem op_add : OpR X (binaryOp .Add) (rI0 fun i j => .int (i + j)) := opI0 fun _ _ _ _ _ _ _ q => add_int q
theorem op_sub : OpR X (binaryOp .Sub) (rI0 fun i j => .int (i - j)) := opI0 fun _ _ _ _ _ _ _ q => sub_int q
theorem op_mul : OpR X (binaryOp .Mult) (rI CMul fun i j => .int (i * j)) := opI fun _ _ _ _ _ _ _ hc q => mul_int q hc.ok
theorem op_mod : OpR X (binaryOp .Mod) (rI (fun _ j => 0 < j) fun i j => .int (i % j)) := opI fun i j _ _ _ _ _ hc q => by
  have h1 : (0 : Int) < j := hc
  exact mod_int' (by omega) (by rw [Int.fmod_eq_emod_of_nonneg i (by omega)]; exact q)
theorem op_pow : OpR X (binaryOp .Pow) (rI CPow fun i j => .int (i ^ j.toNat)) := opI fun _ _ _ _ _ _ _ hc q => pow_int_small hc.1 hc.2.1 hc.2.2 q
theorem op_xor : OpR X (binaryOp .BitXor) (rI0 fun i j => .int (Builtin.bitXor i j)) := opI0 fun _ _ _ _ _ _ _ q => xor_int q
theorem unI {f : Value → Sem Value} {g : Int → Int}
    (rule : ∀ (i : Int) (t : Tok) (s : Shared) (Q : Value → Shared → Prop) (E : Value → Shared → Prop), Q (.int (g i) s.toks) { s with toks := s.toks + 1 } → wpAny (model X.prog X.w) X.A (f (.int i t)) Q E s) :
    UnR X f (rU fun i => .int (g i)) := by
  intro pins s σ H x v Q I rx h
  obtain ⟨i, rfl, q⟩ := h
  obtain ⟨t, rfl⟩ := rx
  exact rule i t s _ _ ⟨.int (g i), H, I.tok _, ⟨_, rfl⟩, q⟩
theorem un_neg : UnR X (unaryOp .USub) (rU fun i => .int (-i)) := unI fun _ _ _ _ _ q => neg_int q
end
def scal : V → V → Bool
  | .non, .non => true | .non, .int _ => true | .int _, .non => true | .non, .bl _ => true | .bl _, .non => true | .non, .str _ => true | .str _, .non => true
  | .int _, .int _ => true | .bl _, .bl _ => true | .str _, .str _ => true | .byt _, .byt _ => true
  | .int _, .str _ => true | .str _, .int _ => true | .bl _, .str _ => true | .str _, .bl _ => true
  | _, _ => false
def rEq : R2 := fun x y H Q => scal x y = true ∧ Q (.bl (decide (x = y))) H
def rNe : R2 := fun x y H Q => scal x y = true ∧ Q (.bl (!decide (x = y))) H
theorem dec_int {i j : Int} : decide (V.int i = V.int j) = (i == j) := by
  rw [Bool.eq_iff_iff]
  simp
theorem dec_bl {i j : Bool} : decide (V.bl i = V.bl j) = (i == j) := by
  rw [Bool.eq_iff_iff]
  simp
theorem dec_str {i j : Str} : decide (V.str i = V.str j) = (i == j) := by
  rw [Bool.eq_iff_iff]
  simp
theorem dec_byt {i j : Array UInt8} : decide (V.byt i = V.byt j) = (i.toList == j.toList) := by
  rw [Bool.eq_iff_iff]
  cases i
  cases j
  simp
section
variable {X : Cx} {a b c : Expr} {ta tb tc : TE} {pos : Pos}
theorem fin_bl {pins : List (Addr × Obj)} {σ : St} {H : Hp} {s : Shared} {Q : VK} {k k' : Bool} (I : Inv X pins σ H s) (q : Q (.bl k) H) (e : k = k') : EP X pins σ Q (.bool k') s := by
  subst e
  exact ⟨.bl k, H, I, rfl, q⟩
theorem op_eq : OpR X (compareOp .Eq) rEq := by
  intro pins s σ H x y v u Q I rx ry h
  obtain ⟨hs, q⟩ := h
  cases x with
  | non =>
    cases rx
    cases y with
    | non => cases ry; exact PySem.EqNone.eq_none_none (fin_bl I q (by simp))
    | bl j => cases ry; exact PySem.EqNone.eq_none_bool (fin_bl I q (by simp))
    | int j => obtain ⟨t', rfl⟩ := ry; exact PySem.EqNone.eq_none_int (fin_bl I q (by simp))
    | str j => obtain ⟨t', rfl⟩ := ry; exact PySem.EqNone.eq_none_str (fin_bl I q (by simp))
    | _ => exact absurd (show false = true from hs) Bool.false_ne_true
  | bl i =>
    cases rx
    cases y with
    | non => cases ry; exact PySem.EqNone.eq_bool_none (fin_bl I q (by simp))
    | bl j => cases ry; exact eq_bool (fin_bl I q dec_bl)
    | str j => obtain ⟨t', rfl⟩ := ry; exact PySem.EqMixed.eq_bool_str (fin_bl I q (by simp))
    | _ => exact absurd (show false = true from hs) Bool.false_ne_true
  | int i =>
    obtain ⟨t, rfl⟩ := rx
    cases y with
    | non => cases ry; exact PySem.EqNone.eq_int_none (fin_bl I q (by simp))
    | int j => obtain ⟨t', rfl⟩ := ry; exact eq_int (fin_bl I q dec_int)
    | str j => obtain ⟨t', rfl⟩ := ry; exact PySem.EqMixed.eq_int_str (fin_bl I q (by simp))
    | _ => exact absurd (show false = true from hs) Bool.false_ne_true
  | str i =>
    obtain ⟨t, rfl⟩ := rx
    cases y with
    | non => cases ry; exact PySem.EqNone.eq_str_none (fin_bl I q (by simp))
    | bl j => cases ry; exact PySem.EqMixed.eq_str_bool (fin_bl I q (by simp))
    | int j => obtain ⟨t', rfl⟩ := ry; exact PySem.EqMixed.eq_str_int (fin_bl I q (by simp))
    | str j => obtain ⟨t', rfl⟩ := ry; exact eq_str (fin_bl I q dec_str)
    | _ => exact absurd (show false = true from hs) Bool.false_ne_true
  | byt i =>
    obtain ⟨t, rfl⟩ := rx
    cases y with
    | byt j => obtain ⟨t', rfl⟩ := ry; exact PySem.W.eq_bytes (fin_bl I q dec_byt)
    | _ => exact absurd (show false = true from hs) Bool.false_ne_true
  | _ => cases y <;> exact absurd (show false = true from hs) Bool.false_ne_true
theorem op_ne : OpR X (compareOp .NotEq) rNe := by
  intro pins s σ H x y v u Q I rx ry h
  obtain ⟨hs, q⟩ := h
  cases x with
  | non =>
    cases rx
    cases y with
    | non => cases ry; exact PySem.EqNone.ne_none_none (fin_bl I q (by simp))
    | bl j => cases ry; exact PySem.EqNone.ne_none_bool (fin_bl I q (by simp))
    | int j => obtain ⟨t', rfl⟩ := ry; exact PySem.EqNone.ne_none_int (fin_bl I q (by simp))
    | str j => obtain ⟨t', rfl⟩ := ry; exact PySem.EqNone.ne_none_str (fin_bl I q (by simp))
    | _ => exact absurd (show false = true from hs) Bool.false_ne_true
  | bl i =>
    cases rx
    cases y with
    | non => cases ry; exact PySem.EqNone.ne_bool_none (fin_bl I q (by simp))
    | bl j => cases ry; exact ne_bool (fin_bl I q (congrArg not dec_bl))
    | str j => obtain ⟨t', rfl⟩ := ry; exact PySem.EqMixed.ne_bool_str (fin_bl I q (by simp))
    | _ => exact absurd (show false = true from hs) Bool.false_ne_true
  | int i =>
    obtain ⟨t, rfl⟩ := rx
    cases y with
    | non => cases ry; exact PySem.EqNone.ne_int_none (fin_bl I q (by simp))
    | int j => obtain ⟨t', rfl⟩ := ry; exact ne_int (fin_bl I q (congrArg not dec_int))
    | str j => obtain ⟨t', rfl⟩ := ry; exact PySem.EqMixed.ne_int_str (fin_bl I q (by simp))
    | _ => exact absurd (show false = true from hs) Bool.false_ne_true
  | str i =>
    obtain ⟨t, rfl⟩ := rx
    cases y with
    | non => cases ry; exact PySem.EqNone.ne_str_none (fin_bl I q (by simp))
    | bl j => cases ry; exact PySem.EqMixed.ne_str_bool (fin_bl I q (by simp))
    | int j => obtain ⟨t', rfl⟩ := ry; exact PySem.EqMixed.ne_str_int (fin_bl I q (by simp))
    | str j => obtain ⟨t', rfl⟩ := ry; exact ne_str (fin_bl I q (congrArg not dec_str))
    | _ => exact absurd (show false = true from hs) Bool.false_ne_true
  | byt i =>
    obtain ⟨t, rfl⟩ := rx
    cases y with
    | byt j => obtain ⟨t', rfl⟩ := ry; exact PySem.W.ne_bytes (fin_bl I q (congrArg not dec_byt))
    | _ => exact absurd (show false = true from hs) Bool.false_ne_true
  | _ => cases y <;> exact absurd (show false = true from hs) Bool.false_ne_true
theorem op_lt : OpR X (compareOp .Lt) (rI0 fun i j => .bl (decide (i < j))) := opB0 fun _ _ _ _ _ _ _ q => lt_int q
theorem op_le : OpR X (compareOp .LtE) (rI0 fun i j => .bl (decide (i ≤ j))) := opB0 fun _ _ _ _ _ _ _ q => le_int q
theorem op_gt : OpR X (compareOp .Gt) (rI0 fun i j => .bl (decide (j < i))) := opB0 fun _ _ _ _ _ _ _ q => gt_int q
theorem op_ge : OpR X (compareOp .GtE) (rI0 fun i j => .bl (decide (j ≤ i))) := opB0 fun _ _ _ _ _ _ _ q => ge_int q
theorem OpR.or {f : Value → Value → Sem Value} {r r' : R2} (h : OpR X f r) (h' : OpR X f r') : OpR X f (fun x y H Q => r x y H Q ∨ r' x y H Q) := by
  intro pins s σ H x y v u Q I rx ry q
  rcases q with q | q
  · exact h pins s σ H x y v u Q I rx ry q
  · exact h' pins s σ H x y v u Q I rx ry q
theorem nomark (b : Expr) {op : CmpOp} (h : op ≠ .In := by decide) (h2 : op ≠ .NotIn := by decide) : behindInMarks op b = false := by
  have e1 : (op == CmpOp.In) = false := by cases op <;> first | rfl | exact absurd rfl h
  have e2 : (op == CmpOp.NotIn) = false := by cases op <;> first | rfl | exact absurd rfl h2
  cases b <;> simp [behindInMarks, e1, e2]
theorem pe_cmpR {op : CmpOp} {r : R2} (ho : OpR X (compareOp op) r) (ha : PE X a ta) (hb : PE X b tb) (hm : behindInMarks op b = false) : PE X (.Compare a [op] [b] pos) (tOp r ta tb) := by
  intro pins s σ H Q I h
  exact wpAny_Compare1 (binT ha hb I h fun v u s2 x y H2 I2 rx ry q => ho pins s2 σ H2 x y v u Q I2 rx ry q) hm
def tTest (t : TE) : TT := fun σ H Q => t σ H fun x H' => ∃ k, x = .bl k ∧ Q k H'
theorem pt_cmpR {op : CmpOp} {r : R2} (ho : OpR X (compareOp op) r) (ha : PE X a ta) (hb : PE X b tb) (hm : behindInMarks op b = false) : PT X (.Compare a [op] [b] pos) (tTest (tOp r ta tb)) := by
  intro pins s σ H Q I h
  refine wpAny_isTrue_Compare1 (thn (ha pins s σ H _ I h) fun v s1 ⟨x, H1, I1, r1, q1⟩ => thn (hb pins s1 σ H1 _ I1 q1) fun u s2 ⟨y, H2, I2, r2, q2⟩ =>
    thn (ho pins s2 σ H2 x y v u _ I2 r1 r2 q2) fun c s3 ⟨z, H3, I3, r3, k, e, q3⟩ => ?_) hm
  subst e
  cases r3
  exact wpAny_truthy_bool ⟨H3, I3, q3⟩
def tChain (r r' : R2) (ta tb tc : TE) : TE := fun σ H Q => ta σ H fun x H1 => tb σ H1 fun y H2 => r x y H2 fun z H3 => ∃ k, z = .bl k ∧
  (if k = true then tc σ H3 fun w' H4 => r' y w' H4 Q else Q (.bl false) H3)
theorem pe_chain {op op' : CmpOp} {r r' : R2} (ho : OpR X (compareOp op) r) (ho' : OpR X (compareOp op') r') (ha : PE X a ta) (hb : PE X b tb) (hc : PE X c tc)
    (hm : lastMarks [op, op'] [b, c] = false := by with_unfolding_all rfl) : PE X (.Compare a [op, op'] [b, c] pos) (tChain r r' ta tb tc) := by
  intro pins s σ H Q I h
  refine Compare_chain (thn (ha pins s σ H _ I h) fun v s1 ⟨x, H1, I1, r1, q1⟩ => chain_link (thn (hb pins s1 σ H1 _ I1 q1) fun u s2 ⟨y, H2, I2, r2, q2⟩ =>
    thn (ho pins s2 σ H2 x y v u _ I2 r1 r2 q2) fun d s3 ⟨z, H3, I3, r3, k, e, q3⟩ => ?_)) hm
  subst e
  cases r3
  refine wpAny_truthy_bool ?_
  cases k with
  | false => exact ite_ff ⟨.bl false, H3, I3, rfl, q3⟩
  | true => exact ite_tt (chain_last (thn (hc pins s3 σ H3 _ I3 q3) fun w' s4 ⟨z', H4, I4, r4, q4⟩ => ho' pins s4 σ H4 y z' u w' Q I4 r2 r4 q4))
theorem pt_chain {op op' : CmpOp} {r r' : R2} (ho : OpR X (compareOp op) r) (ho' : OpR X (compareOp op') r') (ha : PE X a ta) (hb : PE X b tb) (hc : PE X c tc)
    (hm : lastMarks [op, op'] [b, c] = false := by with_unfolding_all rfl) : PT X (.Compare a [op, op'] [b, c] pos) (tTest (tChain r r' ta tb tc)) := by
  intro pins s σ H Q I h
  refine isTrue_chain (thn (ha pins s σ H _ I h) fun v s1 ⟨x, H1, I1, r1, q1⟩ => test_link (thn (hb pins s1 σ H1 _ I1 q1) fun u s2 ⟨y, H2, I2, r2, q2⟩ =>
    thn (ho pins s2 σ H2 x y v u _ I2 r1 r2 q2) fun d s3 ⟨z, H3, I3, r3, k, e, q3⟩ => ?_)) hm
  subst e
  cases r3
  refine wpAny_truthy_bool ?_
  cases k with
  | false =>
    obtain ⟨k', e', q'⟩ := q3
    cases e'
    exact ite_ff ⟨H3, I3, q'⟩
  | true =>
    refine ite_tt (test_last (thn (hc pins s3 σ H3 _ I3 q3) fun w' s4 ⟨z', H4, I4, r4, q4⟩ => thn (ho' pins s4 σ H4 y z' u w' _ I4 r2 r4 q4) fun d' s5 ⟨z2, H5, I5, r5, k2, e2, q5⟩ => ?_))
    subst e2
    cases r5
    exact wpAny_truthy_bool ⟨H5, I5, q5⟩
theorem line63 : (sizeLine : Nat) < 2 ^ 63 := by rw [sizeLine_eq]; decide
theorem vals1 {x : V} {us : List Value} (r : Vals [x] us) : ∃ u, us = [u] ∧ RelV x u := by
  cases r with
  | cons r1 r2 => cases r2; exact ⟨_, rfl, r1⟩
theorem vals2 {x y : V} {us : List Value} (r : Vals [x, y] us) : ∃ u w', us = [u, w'] ∧ RelV x u ∧ RelV y w' := by
  cases r with
  | cons r1 r2 =>
    cases r2 with
    | cons r3 r4 => cases r4; exact ⟨_, _, rfl, r1, r3⟩
theorem call_max2 (hc : X.calm = true) : CallR X (.builtin "max") (fun xs H Q => ∃ i j, xs = [.int i, .int j] ∧ Q (.int (if j > i then j else i)) H) := by
  intro pins s σ H xs us Q I r h
  obtain ⟨i, j, rfl, q⟩ := h
  obtain ⟨u, w', rfl, ⟨t, rfl⟩, ⟨t', rfl⟩⟩ := vals2 r
  refine max_two_ints (I.ok.hd hc) fun h' tk k => ⟨_, H, I.kept k, ?_, q⟩
  by_cases hj : j > i
  · rw [if_pos hj, if_pos hj]; exact ⟨_, rfl⟩
  · rw [if_neg hj, if_neg hj]; exact ⟨_, rfl⟩
theorem call_min2 (hc : X.calm = true) : CallR X (.builtin "min") (fun xs H Q => ∃ i j, xs = [.int i, .int j] ∧ Q (.int (if j < i then j else i)) H) := by
  intro pins s σ H xs us Q I r h
  obtain ⟨i, j, rfl, q⟩ := h
  obtain ⟨u, w', rfl, ⟨t, rfl⟩, ⟨t', rfl⟩⟩ := vals2 r
  refine min_two_ints (I.ok.hd hc) fun h' tk k => ⟨_, H, I.kept k, ?_, q⟩
  by_cases hj : j < i
  · rw [if_pos hj, if_pos hj]; exact ⟨_, rfl⟩
  · rw [if_neg hj, if_neg hj]; exact ⟨_, rfl⟩
theorem call_int1 : CallR X (.type "int") (fun xs H Q => (∃ i, xs = [.int i] ∧ Q (.int i) H) ∨ ∃ k, xs = [.bl k] ∧ Q (.int (if k then 1 else 0)) H) := by
  intro pins s σ H xs us Q I r h
  rcases h with ⟨i, rfl, q⟩ | ⟨k, rfl, q⟩
  · obtain ⟨u, rfl, t, rfl⟩ := vals1 r
    exact call_int_int ⟨.int i, H, I, ⟨_, rfl⟩, q⟩
  · obtain ⟨u, rfl, r1⟩ := vals1 r
    cases r1
    exact call_int_bool ⟨.int (if k then 1 else 0), H, I.tok _, ⟨_, rfl⟩, q⟩
end
end L2
namespace L2
open PySem PySem.Spec PyProof.Rows
structure ObjM (h : Heap) (x dx C : Addr) (mA : Str → Option Value) : Prop where
  obj : h.get? x = some (PySem.W.instObj C dx)
  ns : h.Ns1 dx mA
  ne : dx ≠ x
theorem lookIn_ns {h : Heap} {dx : Addr} {mA : Str → Option Value} (n : h.Ns1 dx mA) : ∃ od, h.get? dx = some od ∧ ∀ name, PySem.W.lookIn name od = some (mA name) := by
  obtain ⟨o, es, ep, ho, hd, hk, _, hm⟩ := n
  refine ⟨o, ho, fun name => ?_⟩
  have e := hm name
  unfold nsFind findBy at e
  rw [← Array.find?_toList] at e
  unfold PySem.W.lookIn
  rw [hd]
  dsimp only
  split
  · rename_i y q
    rw [q] at e
    exact congrArg some e
  · rename_i q
    rw [q] at e
    have a : es.toList.any (·.refKey) = false := by
      rw [List.any_eq_false]
      intro y hy
      obtain ⟨z, t, hkey⟩ := hk y (Array.mem_toList_iff.mp hy)
      simp [DictEntry.refKey, hkey]
    have a' : ¬ es.toList.any (·.refKey) = true := by rw [a]; exact Bool.false_ne_true
    rw [if_neg a']
    exact congrArg some e
theorem ObjM.look {h : Heap} {x dx C : Addr} {mA : Str → Option Value} (I : ObjM h x dx C mA) : ∃ od, PySem.W.InstAt h x (PySem.W.instObj C dx) C (some od) ∧ ∀ name, PySem.W.lookIn name od = some (mA name) :=
  let ⟨od, ho, hl⟩ := lookIn_ns I.ns
  ⟨od, ⟨I.obj, rfl, rfl, ho⟩, hl⟩
section
variable {prog : Program} {w : World} {A : Around} {E : Value → Shared → Prop} {s : Shared} {K : PySem.W.Frag} {x dx C f : Addr} {mA : Str → Option Value} {name : Str} {v : Value}
theorem get_map {expr : Bool} {Q : Value → Shared → Prop} (X : K.In s.heap) (I : ObjM s.heap x dx C mA) (hg : PySem.W.plainGet K C name = true) (hh : PySem.W.hasDictIn K C = true)
    (ha : PySem.W.findIn K (.ref C) name = some none) (hv : mA name = some v) (hv' : PySem.W.handedIn v = true) (h : Q v { s with toks := s.toks + 1 }) :
    wpAny (model prog w) A (getAttr (.ref x) name expr) Q E s := by
  obtain ⟨od, J, hl⟩ := I.look
  exact PySem.W.get_value X J (PySem.W.plainGet_of hg).1 (PySem.W.findObj_own hh ha rfl (by rw [hl, hv])) hv' h
theorem get_meth {pl : Sem Bool} {Q : Value × List Value → Shared → Prop} (X : K.In s.heap) (I : ObjM s.heap x dx C mA) (hg : PySem.W.plainGet K C name = true)
    (hf : PySem.W.findIn K (.ref C) name = some (some (.ref f))) (ht : PySem.W.isFn K (.ref f) = true) (hv : mA name = none) (h : Q (.ref f, [.ref x]) s) :
    wpAny (model prog w) A (getMethod (.ref x) name pl) Q E s := by
  obtain ⟨od, J, hl⟩ := I.look
  exact PySem.W.method_fn X J (PySem.W.plainGet_of hg).1 (PySem.W.plainGet_of hg).2 hf (beq_iff_eq.mp ht) (by show (PySem.W.lookIn name od).map (·.isSome) = some false; rw [hl, hv]; rfl) h
theorem set_map {ns : List Str} {Q : Unit → Shared → Prop} (X : K.In s.heap) (I : ObjM s.heap x dx C mA)
    (hs : PySem.W.findIn K (.ref C) "__setattr__" = some (some (.builtin "object.__setattr__"))) (hp : PySem.W.plainOver K C = true) (ht : PySem.W.takerIn K C name = some none) (hh : PySem.W.hasDictIn K C = true)
    (hw : PySem.Within mA ns) (hsz : ns.length ≤ sizeLine)
    (h : ∀ h', ObjM h' x dx C (fun y => if y = name then some v else mA y) → Heap.SameBut dx s.heap h' → Q () { s with heap := h', toks := s.toks + 2 }) :
    wpAny (model prog w) A (setAttr (.ref x) name v) Q E s := by
  obtain ⟨od, J, hl⟩ := I.look
  refine PySem.W.set_plain X J hs (PySem.W.osa_open (s := { s with toks := s.toks + 1 }) (r := none) X J hp ht fun b => ?_)
  obtain ⟨cd, hc, hd'⟩ := PySem.W.any_some hh
  have hx : s.heap.get? x = some ⟨.ref C, some dx, .plain, #[]⟩ := I.obj
  refine wpAny_bind (wpAny_pure (wpAny_bind (wpAny_bind (wpAny_loadPart hx (wpAny_bind (PySem.W.Looks.here (s := { s with toks := s.toks + 1 }) (PySem.W.looks_clsIn X hc) ?_))))))
  rw [hd']
  refine wpAny_pure (a := some dx) (wpAny_bind (wpAny_pure (wpAny_bind ?_)))
  refine wpAny_nsSet1 (s := { s with toks := s.toks + 1 }) I.ns fun h' hn2 hs2 => ?_
  obtain ⟨oD, esD, epD, hoD, hdD, hcD⟩ := hn2.count (PySem.Within.cons name v hw)
  refine wpAny_bind (wpAny_lookBehind hoD (by rw [hdD]; exact pastItsLine_dict (Nat.le_trans hcD (by rw [List.length_cons]; omega))) ?_)
  exact wpAny_pure (h _ ⟨(hs2.2 _ (Ne.symm I.ne)).trans I.obj, hn2, I.ne⟩ hs2)
theorem make_map {R : Result → Shared → Prop} {vs : List Value} {kw : List (Str × Value)} (X : K.In s.heap) (hm : PySem.W.makesIn K C = true)
    (hi : PySem.W.findIn K (.ref C) "__init__" = some (some (.ref f))) (hf : PySem.W.typeIn K (.ref f) = some (.type "function"))
    (h : codeAny (model prog w) (A.under (.builtin "type.__call__" ⟨.ref C :: vs, kw⟩)) (.call (.ref f) ⟨.ref (s.heap.objs.size + 1) :: vs, kw⟩) (PySem.W.InitBack (s.heap.objs.size + 1) R)
      { s with heap := (s.heap.push PySem.W.emptyDict).push (PySem.W.instObj C s.heap.objs.size) }) :
    codeAny (model prog w) A (.call (.ref C) ⟨vs, kw⟩) R s := by
  obtain ⟨hh, g, d, t, os⟩ := s
  exact PySem.W.make_core (PySem.W.makes_of X hm) (PySem.W.looks_findIn X hi) (fun self => PySem.W.bind_fn X self hf) (.inl rfl) h
end
def putF (f : Str) (v : V) : List (Str × V) → List (Str × V)
  | [] => [(f, v)]
  | (g, x) :: r => if g = f then (g, v) :: r else (g, x) :: putF f v r
theorem lookup_putF (f g : Str) (v : V) : ∀ fs : List (Str × V), (putF f v fs).lookup g = if g = f then some v else fs.lookup g
  | [] => by
    show List.lookup g [(f, v)] = _
    by_cases h : g = f
    · have hb : (g == f) = true := beq_iff_eq.mpr h
      simp only [List.lookup, hb, if_pos h]
    · have hb : (g == f) = false := beq_eq_false_iff_ne.mpr h
      simp only [List.lookup, hb, if_neg h]
  | (k, x) :: r => by
    have ih := lookup_putF f g v r
    rw [show putF f v ((k, x) :: r) = (if k = f then (k, v) :: r else (k, x) :: putF f v r) from rfl]
    by_cases hk : k = f
    · rw [if_pos hk]
      by_cases h : g = k
      · have hb : (g == k) = true := beq_iff_eq.mpr h
        simp only [List.lookup, hb, if_pos (h.trans hk)]
      · have hb : (g == k) = false := beq_eq_false_iff_ne.mpr h
        simp only [List.lookup, hb, if_neg (fun e : g = f => h (e.trans hk.symm))]
    · rw [if_neg hk]
      by_cases h : g = k
      · have hb : (g == k) = true := beq_iff_eq.mpr h
        simp only [List.lookup, hb, if_neg (fun e : g = f => hk (h.symm.trans e))]
      · have hb : (g == k) = false := beq_eq_false_iff_ne.mpr h
        simp only [List.lookup, hb]
        exact ih
theorem keys_putF (f : Str) (v : V) : ∀ fs : List (Str × V), f ∈ (putF f v fs).map (·.1) ∧ ∀ g, g ∈ fs.map (·.1) → g ∈ (putF f v fs).map (·.1)
  | [] => ⟨by simp [putF], fun g h => by simp at h⟩
  | (k, x) :: r => by
    obtain ⟨i1, i2⟩ := keys_putF f v r
    rw [show putF f v ((k, x) :: r) = (if k = f then (k, v) :: r else (k, x) :: putF f v r) from rfl]
    by_cases hk : k = f
    · rw [if_pos hk]
      subst hk
      exact ⟨by simp, fun g h => by simpa using h⟩
    · rw [if_neg hk]
      refine ⟨?_, fun g h => ?_⟩
      · rw [List.map_cons]
        exact List.mem_cons_of_mem _ i1
      · rw [List.map_cons] at h ⊢
        rcases List.mem_cons.mp h with e | e
        · exact List.mem_cons.mpr (.inl e)
        · exact List.mem_cons_of_mem _ (i2 g e)
theorem length_putF (f : Str) (v : V) : ∀ fs : List (Str × V), (putF f v fs).length ≤ fs.length + 1
  | [] => by simp [putF]
  | (k, x) :: r => by
    have ih := length_putF f v r
    rw [show putF f v ((k, x) :: r) = (if k = f then (k, v) :: r else (k, x) :: putF f v r) from rfl]
    by_cases hk : k = f
    · rw [if_pos hk, List.length_cons, List.length_cons]; omega
    · rw [if_neg hk, List.length_cons, List.length_cons]; omega
theorem RelO.some_of {v : V} {o : Option Value} (r : RelO (some v) o) : ∃ u, o = some u ∧ RelV v u := by
  cases o with
  | none => exact (show False from r).elim
  | some u => exact ⟨u, rfl, r⟩
theorem RelO.none_of {o : Option Value} (r : RelO none o) : o = none := by
  cases o with
  | none => rfl
  | some u => exact (show False from r).elim
theorem handed_of {v : V} {u : Value} (r : RelV v u) : PySem.W.handedIn u = true := by
  cases v with
  | non => cases (show u = Value.none from r); rfl
  | bl b => cases (show u = Value.bool b from r); rfl
  | int i => obtain ⟨t, e⟩ := (show ∃ t, u = Value.int i t from r); cases e; rfl
  | str x => obtain ⟨t, e⟩ := (show ∃ t, u = Value.str x t from r); cases e; rfl
  | byt b => obtain ⟨t, e⟩ := (show ∃ t, u = Value.bytes b t from r); cases e; rfl
  | flt b => obtain ⟨t, e⟩ := (show ∃ t, u = Value.float b t from r); cases e; rfl
  | ref a => cases (show u = Value.ref a from r); rfl
  | ty n => cases (show u = Value.type n from r); rfl
section
variable {P : Program} {w : World} {H H' : Hp} {h h' : Heap} {a C dx : Addr} {fs fs' : List (Str × V)}
theorem ins_get (hok : HOk P w H h) (e : H a = some (.ins C dx fs)) : ∃ mA, ObjM h a dx C mA ∧ (∀ f, RelO (fs.lookup f) (mA f)) ∧ PySem.Within mA (fs.map (·.1)) ∧ fs.length ≤ 1000 ∧ H dx = some (.own a) := by
  obtain ⟨d, z, ne, ob, mA, n, r, q⟩ := (show ObjOk P w H h a (.ins C dx fs) from hok a _ e)
  exact ⟨mA, ⟨ob, n, ne⟩, r, q, z, d⟩
end
structure Cls (K : PySem.W.Frag) (C : Addr) : Prop where
  pg : PySem.W.plainGet K C Str.empty = true
  hd : PySem.W.hasDictIn K C = true
  po : PySem.W.plainOver K C = true
  sa : PySem.W.findIn K (.ref C) "__setattr__" = some (some (.builtin "object.__setattr__"))
theorem Cls.get {K : PySem.W.Frag} {C : Addr} (c : Cls K C) (f : Str) : PySem.W.plainGet K C f = true := c.pg
def NoAttr (K : PySem.W.Frag) (C : Addr) (f : Str) : Prop := PySem.W.findIn K (.ref C) f = some none
theorem NoAttr.taker {K : PySem.W.Frag} {C : Addr} {f : Str} (n : NoAttr K C f) : PySem.W.takerIn K C f = some none := by
  unfold PySem.W.takerIn
  rw [show PySem.W.findIn K (.ref C) f = some none from n]
  rfl
structure Con (K : PySem.W.Frag) (C : Addr) (f : Str) (v : V) (u : Value) : Prop where
  at_ : PySem.W.findIn K (.ref C) f = some (some u)
  rel : RelV v u
  get : PySem.W.specialIn K u "__get__" = some none
  cp : PySem.W.copiedNames.contains f = false
structure Meth (K : PySem.W.Frag) (C : Addr) (m : Str) (f : Addr) : Prop where
  at_ : PySem.W.findIn K (.ref C) m = some (some (.ref f))
  fn : PySem.W.isFn K (.ref f) = true
  kp : PySem.W.keepIn K (.ref f) = true
section
variable {X : Cx} {pins : List (Addr × Obj)} {σ : St} {H : Hp} {s : Shared} {a C dx : Addr} {fs : List (Str × V)} {f : Str} {v : V} {A : Around} {E : Value → Shared → Prop}
theorem getattr_ok {b : Bool} {Q : Value → Shared → Prop} (I : Inv X pins σ H s) (e : H a = some (.ins C dx fs)) (c : Cls X.K C) (n : NoAttr X.K C f) (l : fs.lookup f = some v)
    (h : ∀ u s', Inv X pins σ H s' → RelV v u → Q u s') : wpAny (model X.prog X.w) A (getAttr (.ref a) f b) Q E s := by
  obtain ⟨mA, O, r, _, _, _⟩ := ins_get I.hok e
  obtain ⟨u, hu, ru⟩ := RelO.some_of (v := v) (o := mA f) (by rw [← l]; exact r f)
  exact get_map I.kIn O (c.get f) c.hd n hu (handed_of ru) (h u _ (I.tok _) ru)
theorem getmeth_ok {m : Str} {g : Addr} {pl : Sem Bool} {Q : Value × List Value → Shared → Prop} (I : Inv X pins σ H s) (e : H a = some (.ins C dx fs)) (c : Cls X.K C) (k : Meth X.K C m g) (l : fs.lookup m = none)
    (h : Q (.ref g, [.ref a]) s) : wpAny (model X.prog X.w) A (getMethod (.ref a) m pl) Q E s := by
  obtain ⟨mA, O, r, _, _, _⟩ := ins_get I.hok e
  have hn : mA m = none := RelO.none_of (by rw [← l]; exact r m)
  exact get_meth I.kIn O (c.get m) k.at_ k.fn hn h
theorem setattr_ok {y : V} {u : Value} {Q : Unit → Shared → Prop} (I : Inv X pins σ H s) (e : H a = some (.ins C dx fs)) (c : Cls X.K C) (n : NoAttr X.K C f) (hl : fs.length < 1000) (ry : RelV y u)
    (h : ∀ s', Inv X pins σ (upd H a (.ins C dx (putF f y fs))) s' → Q () s') : wpAny (model X.prog X.w) A (setAttr (.ref a) f u) Q E s := by
  obtain ⟨mA, O, r, wi, _, ho⟩ := ins_get I.hok e
  have hz : (fs.map (·.1)).length ≤ sizeLine := by rw [List.length_map, sizeLine_eq]; omega
  refine set_map I.kIn O c.sa c.po n.taker c.hd wi hz fun h' O' sb => h _ ?_
  have hd : ∃ o, h'.get? dx = some o := let ⟨o, _, _, e', _⟩ := O'.ns; ⟨o, e'⟩
  refine I.write (x := a) (e := dx) (by rw [e]; exact True.intro) (.inr ho) (fun b q hb z => (sb.2 b hb).trans z) hd ?_
  refine ⟨by rw [upd_ne O.ne]; exact ho, ?_, O.ne, O'.obj, _, O'.ns, fun g => ?_, fun g hg => ?_⟩
  · have := length_putF f y fs; omega
  · show RelO ((putF f y fs).lookup g) (if g = f then some u else mA g)
    rw [lookup_putF]
    by_cases q : g = f
    · rw [if_pos q, if_pos q]; exact ry
    · rw [if_neg q, if_neg q]; exact r g
  · by_cases q : g = f
    · rw [q]; exact (keys_putF f y fs).1
    · refine (keys_putF f y fs).2 g (wi g fun z => hg ?_)
      show (if g = f then some u else mA g) = none
      rw [if_neg q]; exact z
theorem Inv.made (I : Inv X pins σ H s) : Inv X pins σ (upd (upd H s.heap.objs.size (.own (s.heap.objs.size + 1))) (s.heap.objs.size + 1) (.ins C s.heap.objs.size []))
    { s with heap := (s.heap.push PySem.W.emptyDict).push (PySem.W.instObj C s.heap.objs.size) } := by
  have e1 : (s.heap.push PySem.W.emptyDict).get? s.heap.objs.size = some PySem.W.emptyDict := Heap.get?_push_size s.heap rfl
  have e2 : ((s.heap.push PySem.W.emptyDict).push (PySem.W.instObj C s.heap.objs.size)).get? (s.heap.objs.size + 1) = some (PySem.W.instObj C s.heap.objs.size) := by
    have := Heap.get?_push_size (s.heap.push PySem.W.emptyDict) (o := PySem.W.instObj C s.heap.objs.size) rfl
    rwa [Heap.size_push] at this
  have e3 : (s.heap.push PySem.W.emptyDict).Ns s.heap.objs.size (fun _ => none) := ⟨PySem.W.emptyDict, #[], _, e1, rfl, (fun e he => absurd he (by simp)), fun _ => rfl⟩
  have I1 := I.laid (a := s.heap.objs.size) (o := .own (s.heap.objs.size + 1)) (h' := s.heap.push PySem.W.emptyDict) (t' := s.toks) (fun b u q => Heap.get?_push_of_some _ q) (Nat.le_refl _) ⟨_, e1⟩
  refine I1.laid (a := s.heap.objs.size + 1) (o := .ins C s.heap.objs.size []) (t' := s.toks) (fun b u q => Heap.get?_push_of_some _ q) (Nat.le_of_eq (Heap.size_push _ _)) ?_
  have ne : s.heap.objs.size ≠ s.heap.objs.size + 1 := Nat.ne_of_lt (Nat.lt_succ_self _)
  refine ⟨by rw [upd_ne ne, upd_same], Nat.zero_le _, ne, e2, fun _ => none, (Heap.Ns1.of_empty e3).at fun o q => Heap.get?_push_of_some _ q, fun _ => True.intro, fun y hy => absurd rfl hy⟩
theorem attr_of {prog : Program} {w : World} {env : Env} {e : Expr} {f : Str} {pos : Pos} {s : Shared} {Q : Value → Shared → Prop} (hb : attributeBase e f env (eval e env) = eval e env)
    (h : wpAny (model prog w) A (eval e env) (fun o s₁ => wpAny (model prog w) A (getAttr o f true) Q E s₁) E s) : wpAny (model prog w) A (eval (.Attribute e f pos) env) Q E s :=
  Attribute_any_ h (by rw [arm_eval_Attribute, hb])
end
def tFld (K : PySem.W.Frag) (ta : TE) (f : Str) : TE := fun σ H Q => ta σ H fun x H1 => ∃ a C dx fs v, x = .ref a ∧ H1 a = some (.ins C dx fs) ∧ Cls K C ∧ NoAttr K C f ∧ fs.lookup f = some v ∧ Q v H1
def sFld (K : PySem.W.Frag) (ta tv : TE) (f : Str) : TS := fun D σ H => tv σ H fun y H1 => ta σ H1 fun x H2 => ∃ a C dx fs, x = .ref a ∧ H2 a = some (.ins C dx fs) ∧ Cls K C ∧ NoAttr K C f ∧ fs.length < 1000 ∧
  D.nx σ (upd H2 a (.ins C dx (putF f y fs)))
section
variable {X : Cx} {o e value : Expr} {f : Str} {pos pos' tpos : Pos} {ta tv : TE}
theorem pe_fld (he : PE X e ta) (hb : attributeBase e f X.env (eval e X.env) = eval e X.env) : PE X (.Attribute e f pos) (tFld X.K ta f) := by
  intro pins s σ H Q I h
  refine attr_of hb (thn (he pins s σ H _ I h) fun u s1 ⟨x, H1, I1, rx, a, C, dx, fs, v, ex, ea, c, n, l, q⟩ => ?_)
  subst ex
  obtain rfl : u = Value.ref a := rx
  exact getattr_ok I1 ea c n l fun u' s2 I2 ru => ⟨v, H1, I2, ru, q⟩
theorem ps_fld (ha : PE X o ta) (hv : PE X value tv) (hs : swapsWith value (some (.Attribute o f pos')) pos.line X.env = pure false) : PS X (.Assign [.Attribute o f pos'] value pos) (sFld X.K ta tv f) := by
  intro pins s σ H D I h
  refine plainObj_wpAny_Assign_Attribute (thn (hv pins s σ H _ I h) fun u s1 ⟨y, H1, I1, ry, q⟩ => thn (ha pins s1 σ H1 _ I1 q) fun ov s2 ⟨x, H2, I2, rx, a, C, dx, fs, ex, ea, c, n, l, q2⟩ => ?_) hs
  subst ex
  obtain rfl : ov = Value.ref a := rx
  exact setattr_ok I2 ea c n l ry fun s3 I3 => ⟨σ, _, I3, q2⟩
end
section
variable {X : Cx} {pins : List (Addr × Obj)} {σ : St} {H : Hp} {s : Shared} {A : Around} {E : Value → Shared → Prop} {Q : Value → Shared → Prop} {c : Value} {b : Bool}
inductive TyOf (K : PySem.W.Frag) (H : Hp) : V → Value → Prop where
  | non : TyOf K H .non (.type "NoneType")
  | bl (x : Bool) : TyOf K H (.bl x) (.type "bool")
  | int (i : Int) : TyOf K H (.int i) (.type "int")
  | str (x : Str) : TyOf K H (.str x) (.type "str")
  | flt (x : UInt64) : TyOf K H (.flt x) (.type "float")
  | lst {a : Addr} {xs : List V} (e : H a = some (.lst xs)) : TyOf K H (.ref a) (.type "list")
  | frz {a : Addr} {o : Obj} {xs : List V} (e : H a = some (.frz o (.lst xs))) : TyOf K H (.ref a) (.type "list")
  | tup {a : Addr} {xs : List V} (e : H a = some (.tup xs)) : TyOf K H (.ref a) (.type "tuple")
  | dK {a : Addr} {kvs : List (Key × V)} (e : H a = some (.dK kvs)) : TyOf K H (.ref a) (.type "dict")
  | dT {a : Addr} {kvs : List (List Key × V)} (e : H a = some (.dT kvs)) : TyOf K H (.ref a) (.type "dict")
  | ins {a C dx : Addr} {fs : List (Str × V)} (e : H a = some (.ins C dx fs)) (cl : Cls K C) (ha : PySem.W.findIn K (.ref C) "__class__" = some (some (.builtin "object.__class__")))
      (hn : PySem.W.specialIn K (.builtin "object.__class__") "__get__" = some (some (.builtin "getset_descriptor.__get__"))) (htk : PySem.W.takesIn K (.builtin "object.__class__") = some true)
      (hm : PySem.W.mroIn K C (.type "object") = some true) : TyOf K H (.ref a) (.ref C)
theorem isinst_ok {x : V} {u t : Value} (I : Inv X pins σ H s) (rx : RelV x u) (ty : TyOf X.K H x t) (e : PySem.W.kitOne X.K t c = some b) (h : ∀ tk, Q (.bool b) { s with toks := tk }) :
    wpAny (model X.prog X.w) A (call (.builtin "isinstance") [u, c]) Q E s := by
  cases ty with
  | non => cases (show u = Value.none from rx); exact PySem.W.kia_one PySem.W.kitx_none I.kIn True.intro e (fun z => nomatch z) h
  | bl y => cases (show u = Value.bool y from rx); exact PySem.W.kia_one PySem.W.kitx_bool I.kIn True.intro e (fun z => nomatch z) h
  | int i => obtain ⟨t, q⟩ := (show ∃ t, u = Value.int i t from rx); cases q; exact PySem.W.kia_one PySem.W.kitx_int I.kIn True.intro e (fun z => nomatch z) h
  | str y => obtain ⟨t, q⟩ := (show ∃ t, u = Value.str y t from rx); cases q; exact PySem.W.kia_one PySem.W.kitx_str I.kIn True.intro e (fun z => nomatch z) h
  | flt y => obtain ⟨t, q⟩ := (show ∃ t, u = Value.float y t from rx); cases q; exact PySem.W.kia_one PySem.W.kitx_float I.kIn True.intro e (fun z => nomatch z) h
  | @lst a xs ea =>
    cases (show u = Value.ref a from rx)
    obtain ⟨_, _, n, _, h1⟩ := (show ObjOk X.prog X.w H s.heap a (.lst xs) from I.hok a _ ea)
    exact PySem.W.kia_one PySem.W.kitx_list I.kIn ⟨_, h1, rfl⟩ e (fun z => nomatch z) h
  | @frz a ob xs ea =>
    cases (show u = Value.ref a from rx)
    obtain ⟨_, _, _, n, _, h1⟩ := (show ObjOk X.prog X.w H s.heap a (.frz ob (.lst xs)) from I.hok a _ ea)
    exact PySem.W.kia_one PySem.W.kitx_list I.kIn ⟨_, h1, rfl⟩ e (fun z => nomatch z) h
  | @tup a xs ea =>
    cases (show u = Value.ref a from rx)
    obtain ⟨_, _, _, p⟩ := (show ObjOk X.prog X.w H s.heap a (.tup xs) from I.hok a _ ea)
    obtain ⟨o, h1, h2, _⟩ := p
    exact PySem.W.kia_one PySem.W.kitx_tuple I.kIn ⟨o, h1, h2⟩ e (fun z => nomatch z) h
  | @dK a kvs ea =>
    cases (show u = Value.ref a from rx)
    obtain ⟨_, _, vs, _, p⟩ := (show ObjOk X.prog X.w H s.heap a (.dK kvs) from I.hok a _ ea)
    obtain ⟨o, es, ep, h1, h2, _⟩ := p
    exact PySem.W.kia_one PySem.W.kitx_dict I.kIn ⟨o, h1, h2.1⟩ e (fun z => nomatch z) h
  | @dT a kvs ea =>
    cases (show u = Value.ref a from rx)
    obtain ⟨_, _, xs, _, o, es, ep, h1, h2, _⟩ := (show ObjOk X.prog X.w H s.heap a (.dT kvs) from I.hok a _ ea)
    exact PySem.W.kia_one PySem.W.kitx_dict I.kIn ⟨o, h1, h2.1⟩ e (fun z => nomatch z) h
  | @ins a C dx fs ea cl ha hn htk hm =>
    cases (show u = Value.ref a from rx)
    obtain ⟨mA, O, _⟩ := ins_get I.hok ea
    obtain ⟨od, J, _⟩ := O.look
    exact PySem.W.kia_one (PySem.W.kitx_own (cl.get _) cl.hd ha hn htk hm) I.kIn J e (fun z => nomatch z) h
end
end L2
namespace L2
open PySem PySem.Spec PyProof.Rows
structure Room (k : Nat) (A : Around) : Prop where
  hd : A.handled = none
  dp : A.depth + 3 * k + 5 < recursionLimit
  un : A.units + 16 * k + 200 < cLine
theorem Room.mono {j k : Nat} {A : Around} (r : Room k A) (h : j ≤ k) : Room j A := ⟨r.hd, by have := r.dp; omega, by have := r.un; omega⟩
theorem Room.deeper {k : Nat} {A : Around} (r : Room (k + 1) A) (env : Env) : Room k (A.deeper env) :=
  ⟨r.hd, by have := r.dp; show A.depth + 1 + 3 * k + 5 < _; omega, by have := r.un; show A.units + 3 + 16 * k + 200 < _; omega⟩
theorem make_depth {A : Around} {C : Addr} {us : List Value} {kw : List (Str × Value)} : (A.under (.builtin "type.__call__" ⟨.ref C :: us, kw⟩)).depth = A.depth + 1 := by
  first | rfl | simp [Around.under, Code.weight, Code.isCreation, Code.isGuard, Code.isCaller, Code.frames, Code.isFrame, guardIds]
theorem make_units {A : Around} {C : Addr} {us : List Value} {kw : List (Str × Value)} : (A.under (.builtin "type.__call__" ⟨.ref C :: us, kw⟩)).units = A.units + 1 := by
  first | rfl | simp [Around.under, Code.cUnits, Code.frames, Code.isFrame]
theorem Room.make {k : Nat} {A : Around} (r : Room (k + 1) A) (C : Addr) (us : List Value) (kw : List (Str × Value)) : Room k (A.under (.builtin "type.__call__" ⟨.ref C :: us, kw⟩)) :=
  ⟨r.hd, by have := r.dp; rw [make_depth]; omega, by have := r.un; rw [make_units]; omega⟩
theorem Room.depth {k : Nat} {A : Around} (r : Room k A) : A.depth < recursionLimit := by have := r.dp; omega
theorem Room.units {k : Nat} {A : Around} (r : Room k A) : A.units + 64 < cLine := by have := r.un; omega
def tNil : TA := fun _ H Q => Q [] H
def tCons (ta : TE) (tr : TA) : TA := fun σ H Q => ta σ H fun x H1 => tr σ H1 fun xs H2 => Q (x :: xs) H2
section
variable {X : Cx} {e : Expr} {es : List Expr} {te : TE} {t : TA} {pos : Pos}
theorem pa_nil : PA X [] tNil := fun _ _ _ _ H Q I h => Calls.spliced_nil ⟨[], H, I, .nil, h⟩
theorem pa_cons (ha : PE X e te) (hr : PA X es t) (hs : starEach (e :: es) X.env = (false, eval e X.env) :: starEach es X.env := by rfl) : PA X (e :: es) (tCons te t) := by
  intro pos pins s σ H Q I h
  rw [hs]
  show wpAny _ _ (spliced ((false, eval e X.env) :: backTo pos (starEach es X.env))) _ _ s
  refine Calls.spliced_cons (thn (ha pins s σ H _ I h) fun u s1 ⟨x, H1, I1, r1, q1⟩ => ?_)
  exact thn (hr pos pins s1 σ H1 _ I1 q1) fun us s2 ⟨xs, H2, I2, r2, q2⟩ => ⟨x :: xs, H2, I2, .cons r1 r2, q2⟩
def tTup (t : TA) : TE := fun σ H Q => t σ H fun xs H1 => xs.length ≤ sizeLine ∧ ∀ p, H1 p = none → Q (.ref p) (upd H1 p (.tup xs))
def tLst (t : TA) : TE := fun σ H Q => t σ H fun xs H1 => xs.length ≤ sizeLine ∧ ∀ p, H1 p = none → Q (.ref p) (upd H1 p (.lst xs))
theorem pe_tup {x1} (h : PA X es t) : PE X (.Tuple es x1 pos) (tTup t) := by
  intro pins s σ H Q I hq
  refine wpAny_Tuple_spliced (thn (h pos pins s σ H _ I hq) fun us s1 ⟨xs, H1, I1, r, z, q⟩ => ⟨by rw [← r.length]; exact z, ?_⟩)
  have hf : H1 s1.heap.objs.size = none := I1.hok.fresh (Nat.le_refl _)
  refine ⟨.ref s1.heap.objs.size, upd H1 s1.heap.objs.size (.tup xs), I1.laid (t' := s1.toks) (fun b u e => Heap.get?_push_of_some _ e) (Nat.le_refl _) ?_, rfl, q _ hf⟩
  exact ⟨z, us, r, ⟨_, Heap.get?_push_size _ rfl, rfl, _, rfl⟩⟩
theorem pe_lst (h : PA X es t) : PE X (.List es pos) (tLst t) := by
  intro pins s σ H Q I hq
  refine wpAny_List_spliced (thn (h pos pins s σ H _ I hq) fun us s1 ⟨xs, H1, I1, r, z, q⟩ => ⟨by rw [← r.length]; exact z, ?_⟩)
  have hf : H1 s1.heap.objs.size = none := I1.hok.fresh (Nat.le_refl _)
  refine ⟨.ref s1.heap.objs.size, upd H1 s1.heap.objs.size (.lst xs), I1.laid (t' := s1.toks) (fun b u e => Heap.get?_push_of_some _ e) (Nat.le_refl _) ?_, rfl, q _ hf⟩
  exact ⟨z, us, 0, r, Heap.get?_push_size _ rfl⟩
end
abbrev Sp := List V → Hp → VK → XK → Prop
abbrev CXT := List Env → Hp → Shared → XK → Value → Shared → Prop
structure Env0 (P : Program) (w : World) (K : PySem.W.Frag) (mg : Str → Option Value) (base : Heap) (A : Around) (outer : List Env) (s : Shared) (H : Hp) : Prop where
  frames : A.frames = some outer
  mod : Mod K mg base
  bs : ∀ b o, base.get? b = some o → s.heap.get? b = some o ∧ H b = none
  bsz : base.objs.size ≤ s.heap.objs.size
  funs : s.heap.FunFrames base outer
  frf : ∀ b ∈ frs outer, H b = none
  hok : HOk P w H s.heap
  bare : AllBare s.gens
def CE (outer : List Env) (P : Program) (w : World) (H : Hp) (s : Shared) (Q : VK) (u : Value) (s' : Shared) : Prop :=
  ∃ v H', s'.os = s.os ∧ AllBare s'.gens ∧ Un (frs outer) [] H H' s.heap s'.heap ∧ HOk P w H' s'.heap ∧ RelV v u ∧ Q v H'
def CR (CX : CXT) (outer : List Env) (P : Program) (w : World) (H : Hp) (s : Shared) (Q : VK) (E : XK) (r : Result) (s' : Shared) : Prop :=
  match r with
  | .ok (.ret u) => CE outer P w H s Q u s'
  | .ok _ => False
  | .error e => CX outer H s E e s'
structure FnOk (P : Program) (w : World) (K : PySem.W.Frag) (mg : Str → Option Value) (base : Heap) (CX : CXT) (k : Nat) (f : Addr) (fd : FuncData) (ps : List Str) (sp : Sp) : Prop where
  len : ∀ vs H Q E, sp vs H Q E → vs.length = ps.length
  run : ∀ (A : Around) (outer : List Env) (s : Shared) (H : Hp) (args : Args) (us : List Value) (vs : List V) (Q : VK) (E : XK), Room k A → Env0 P w K mg base A outer s H → BindsTo s fd args (ps.zip us) → Vals vs us → sp vs H Q E →
    codeAny (model P w) A (.call (.ref f) args) (CR CX outer P w H s Q E) s
theorem FnOk.mono {P : Program} {w : World} {K : PySem.W.Frag} {mg : Str → Option Value} {base : Heap} {CX : CXT} {j k : Nat} {f : Addr} {fd : FuncData} {ps : List Str} {sp : Sp} (F : FnOk P w K mg base CX j f fd ps sp) (h : j ≤ k) :
    FnOk P w K mg base CX k f fd ps sp := ⟨F.len, fun A outer s H args us vs Q E hr => F.run A outer s H args us vs Q E (hr.mono h)⟩
theorem FnOk.imp {P : Program} {w : World} {K : PySem.W.Frag} {mg : Str → Option Value} {base : Heap} {CX : CXT} {k : Nat} {f : Addr} {fd : FuncData} {ps : List Str} {sp sp' : Sp} (F : FnOk P w K mg base CX k f fd ps sp)
    (h : ∀ vs H Q E, sp' vs H Q E → sp vs H Q E) : FnOk P w K mg base CX k f fd ps sp' :=
  ⟨fun vs H Q E q => F.len vs H Q E (h _ _ _ _ q), fun A outer s H args us vs Q E hr he hb hv hs => F.run A outer s H args us vs Q E hr he hb hv (h _ _ _ _ hs)⟩
theorem Env0.make {P : Program} {w : World} {K : PySem.W.Frag} {mg : Str → Option Value} {base : Heap} {A : Around} {outer : List Env} {s : Shared} {H : Hp} (e : Env0 P w K mg base A outer s H) (C : Addr) (us : List Value) (kw : List (Str × Value)) :
    Env0 P w K mg base (A.under (.builtin "type.__call__" ⟨.ref C :: us, kw⟩)) outer s H := ⟨by first | exact e.frames | (simpa [Around.under, Code.envs, Code.isFrame, pushEnvs] using e.frames), e.mod, e.bs, e.bsz, e.funs, e.frf, e.hok, e.bare⟩
section
variable {X : Cx} {pins : List (Addr × Obj)} {σ : St} {H : Hp} {s s' : Shared}
theorem Inv.env0 (I : Inv X pins σ H s) : Env0 X.prog X.w X.K X.mg X.base X.A X.stack s H :=
  ⟨I.ok.frames, I.ok.mod, I.bs, Nat.le_trans I.ok.bsz I.sz, I.stack, I.stkFree, I.hok, I.bare⟩
theorem Inv.after {Q : VK} {u : Value} (I : Inv X pins σ H s) (h : CE X.stack X.prog X.w H s Q u s') : EP X pins σ Q u s' := by
  obtain ⟨v, H', os, bare, un, hok, r, q⟩ := h
  obtain ⟨hh, g, d, t, os'⟩ := s'
  obtain rfl : os' = s.os := os
  exact ⟨v, H', I.call (h' := hh) (g' := g) (d' := d) (t' := t) (ch := []) un hok bare (fun b z => absurd z (by simp)), r, q⟩
end
def tCall (sp : Sp) (dvs : List V) (E : XK) (t : TA) : TE := fun σ H Q => t σ H fun vs H1 => sp (vs ++ dvs) H1 Q E
def tMeth (C : Addr) (m : Str) (sp : Sp) (dvs : List V) (E : XK) (ta : TE) (t : TA) : TE := fun σ H Q => ta σ H fun x H1 => ∃ a dx fs, x = .ref a ∧ H1 a = some (.ins C dx fs) ∧ fs.lookup m = none ∧
  t σ H1 fun vs H2 => sp (x :: (vs ++ dvs)) H2 Q E
def tMake (C : Addr) (sp : Sp) (dvs : List V) (E : XK) (t : TA) : TE := fun σ H Q => t σ H fun vs H1 => ∀ x dx, H1 x = none → H1 dx = none → dx ≠ x →
  sp (.ref x :: (vs ++ dvs)) (upd (upd H1 dx (.own x)) x (.ins C dx [])) (fun v H2 => v = .non ∧ Q (.ref x) H2) E
def Binds (K : PySem.W.Frag) (fd : FuncData) (ps : List Str) (ds : List Value) : Prop :=
  ∀ (s : Shared) (us : List Value), K.In s.heap → (us ++ ds).length = ps.length → BindsTo s fd ⟨us, []⟩ (ps.zip (us ++ ds))
theorem Binds.all {K : PySem.W.Frag} {fd : FuncData} {ps : List Str} (h : ∀ us : List Value, us.length = ps.length → bindArgs fd ⟨us, []⟩ = pure (ps.zip us)) : Binds K fd ps [] := fun s us _ hl => by
  rw [List.append_nil] at hl ⊢
  exact .of_eq (h us hl)
def Passes (CX : CXT) (X : Cx) (E : XK) : Prop := ∀ (pins : List (Addr × Obj)) (σ : St) (H : Hp) (s : Shared) (e : Value) (s' : Shared), Inv X pins σ H s → CX X.stack H s E e s' → X.xe e s'
section
variable {X : Cx} {CX : CXT} {k : Nat} {f C : Addr} {fd : FuncData} {ps : List Str} {sp : Sp} {dvs : List V} {ds : List Value} {E : XK} {x m : Str} {p pos apos : Pos} {e o : Expr} {es : List Expr} {ta : TE} {t : TA}
theorem run_fn {pins : List (Addr × Obj)} {σ : St} {H : Hp} {s : Shared} {Q : VK} {us : List Value} {vs : List V} (F : FnOk X.prog X.w X.K X.mg X.base CX k f fd ps sp) (hr : Room k X.A) (hb : Binds X.K fd ps ds) (hd : Vals dvs ds) (hx : Passes CX X E)
    (I : Inv X pins σ H s) (r : Vals vs us) (h : sp (vs ++ dvs) H Q E) : wpAny (model X.prog X.w) X.A (call (.ref f) us) (EP X pins σ Q) X.xe s := by
  have r2 : Vals (vs ++ dvs) (us ++ ds) := r.append hd
  have hl : (us ++ ds).length = ps.length := by rw [← r2.length]; exact F.len _ _ _ _ h
  refine wpAny_call (codeAny_mono (F.run X.A X.stack s H ⟨us, []⟩ (us ++ ds) (vs ++ dvs) Q E hr I.env0 (hb s us I.kIn hl) r2 h) fun r s' hq => ?_)
  cases r with
  | error e => exact hx pins σ H s e s' I hq
  | ok fl =>
    cases fl with
    | ret u => exact I.after hq
    | next => exact False.elim hq
    | brk => exact False.elim hq
    | cont => exact False.elim hq
theorem pe_call (F : FnOk X.prog X.w X.K X.mg X.base CX k f fd ps sp) (hr : Room k X.A) (hg : Gl X x) (hm : X.mg x = some (.ref f)) (hk : PySem.W.keepIn X.K (.ref f) = true) (hb : Binds X.K fd ps ds) (hd : Vals dvs ds) (hx : Passes CX X E)
    (ha : PA X (e :: es) t) (hdb : (x == ("__debug__" : Str)) = false := by decide) (he : starEach (e :: es) X.env = (false, eval e X.env) :: starEach es X.env := by rfl) (hpl : (backTo pos (starEach es X.env)).any (·.1) = false := by rfl) :
    PE X (.Call (.Name x p) (e :: es) [] pos) (tCall sp dvs E t) := by
  intro pins s σ H Q I h
  refine wpAny_Call_Name_kw (ld_glob I hg hm ?_ hdb)
  refine PySem.W.callWith_K (h₀ := X.base) I.ok.mod.kin hk (thn (ha pos pins s σ H _ I h) fun us s1 ⟨vs, H1, I1, r, q⟩ => ⟨I1.kIn, ?_⟩) he hpl
  exact run_fn F hr hb hd hx I1 r q
theorem pe_meth {pl : Sem Bool} (he : PE X o ta) (c : Cls X.K C) (hm : Meth X.K C m f) (F : FnOk X.prog X.w X.K X.mg X.base CX k f fd ps sp) (hr : Room k X.A) (hb : Binds X.K fd ps ds) (hd : Vals dvs ds) (hx : Passes CX X E) (ha : PA X (e :: es) t)
    (hst : starEach (e :: es) X.env = (false, eval e X.env) :: starEach es X.env := by rfl) (hpl : (backTo pos (starEach es X.env)).any (·.1) = false := by rfl)
    (ht : eval (.Call (.Attribute o m apos) (e :: es) [] pos) X.env = (do
      let ov ← eval o X.env
      standAt apos.atName
      let (f, first) ← holding [ov] (getMethod ov m pl)
      callWith pos f first (backTo pos (starEach (e :: es) X.env)) (backToKw pos (keywordEach [] X.env))) := by rfl) :
    PE X (.Call (.Attribute o m apos) (e :: es) [] pos) (tMeth C m sp dvs E ta t) := by
  intro pins s σ H Q I h
  refine PySem.W.methodCall_KW (pl := pl) (thn (he pins s σ H _ I h) fun u s1 ⟨x, H1, I1, rx, a, dx, fs, ex, ea, l, q⟩ => ?_) ht
  subst ex
  obtain rfl : u = Value.ref a := rx
  refine getmeth_ok I1 ea c hm l ?_
  refine PySem.W.callWith_K (first := [.ref a]) (h₀ := X.base) I.ok.mod.kin hm.kp (thn (ha pos pins s1 σ H1 _ I1 q) fun us s2 ⟨vs, H2, I2, r, q2⟩ => ⟨I2.kIn, ?_⟩) hst hpl
  exact run_fn (us := .ref a :: us) (vs := .ref a :: vs) F hr hb hd hx I2 (.cons rfl r) q2
theorem pe_meth0 {pl : Sem Bool} (he : PE X o ta) (c : Cls X.K C) (hm : Meth X.K C m f) (F : FnOk X.prog X.w X.K X.mg X.base CX k f fd ps sp) (hr : Room k X.A) (hb : Binds X.K fd ps ds) (hd : Vals dvs ds) (hx : Passes CX X E)
    (ht : eval (.Call (.Attribute o m apos) [] [] pos) X.env = (do
      let ov ← eval o X.env
      standAt apos.atName
      let (f, first) ← holding [ov] (getMethod ov m pl)
      callWith pos f first (backTo pos (starEach [] X.env)) (backToKw pos (keywordEach [] X.env))) := by rfl) :
    PE X (.Call (.Attribute o m apos) [] [] pos) (tMeth C m sp dvs E ta tNil) := by
  intro pins s σ H Q I h
  refine PySem.W.methodCall_KW (pl := pl) (thn (he pins s σ H _ I h) fun u s1 ⟨x, H1, I1, rx, a, dx, fs, ex, ea, l, q⟩ => ?_) ht
  subst ex
  obtain rfl : u = Value.ref a := rx
  refine getmeth_ok I1 ea c hm l ?_
  exact PySem.W.callWith_K0 (first := [.ref a]) I1.kIn hm.kp (run_fn (us := [.ref a]) (vs := [.ref a]) F hr hb hd hx I1 (.cons rfl .nil) q)
structure Mk (K : PySem.W.Frag) (C f : Addr) : Prop where
  makes : PySem.W.makesIn K C = true
  init : PySem.W.findIn K (.ref C) "__init__" = some (some (.ref f))
  fn : PySem.W.isFn K (.ref f) = true
  kp : PySem.W.keepIn K (.ref C) = true
theorem run_make {pins : List (Addr × Obj)} {σ : St} {H : Hp} {s : Shared} {Q : VK} {us : List Value} {vs : List V} (M : Mk X.K C f) (F : FnOk X.prog X.w X.K X.mg X.base CX k f fd ps sp) (hr : Room (k + 1) X.A) (hb : Binds X.K fd ps ds) (hd : Vals dvs ds)
    (hx : Passes CX X E) (I : Inv X pins σ H s) (r : Vals vs us)
    (h : ∀ x dx, H x = none → H dx = none → dx ≠ x → sp (.ref x :: (vs ++ dvs)) (upd (upd H dx (.own x)) x (.ins C dx [])) (fun v H2 => v = .non ∧ Q (.ref x) H2) E) :
    wpAny (model X.prog X.w) X.A (call (.ref C) us) (EP X pins σ Q) X.xe s := by
  have hq := h (s.heap.objs.size + 1) s.heap.objs.size (I.hok.fresh (Nat.le_succ _)) (I.hok.fresh (Nat.le_refl _)) (Nat.ne_of_lt (Nat.lt_succ_self _))
  have I2 := Inv.made (C := C) I
  have r2 : Vals (V.ref (s.heap.objs.size + 1) :: (vs ++ dvs)) (Value.ref (s.heap.objs.size + 1) :: (us ++ ds)) := .cons rfl (r.append hd)
  have hl : (Value.ref (s.heap.objs.size + 1) :: us ++ ds).length = ps.length := by
    have e := r2.length
    rw [F.len _ _ _ _ hq] at e
    exact e.symm
  refine wpAny_call (make_map (f := f) I.kIn M.makes M.init (beq_iff_eq.mp M.fn) (codeAny_mono (F.run _ X.stack _ _ ⟨Value.ref (s.heap.objs.size + 1) :: us, []⟩ (Value.ref (s.heap.objs.size + 1) :: (us ++ ds)) _ _ E (hr.make C us [])
    (I2.env0.make C us []) (hb _ (Value.ref (s.heap.objs.size + 1) :: us) I2.kIn hl) r2 hq) fun r s' hq' => ?_))
  cases r with
  | error e => exact hx pins σ _ _ e s' I2 hq'
  | ok fl =>
    cases fl with
    | ret u =>
      obtain ⟨v, H', I3, rv, ev, q3⟩ := I2.after hq'
      subst ev
      exact ⟨rv, ⟨V.ref (s.heap.objs.size + 1), H', I3, rfl, q3⟩⟩
    | next => exact False.elim hq'
    | brk => exact False.elim hq'
    | cont => exact False.elim hq'
theorem pe_make (M : Mk X.K C f) (F : FnOk X.prog X.w X.K X.mg X.base CX k f fd ps sp) (hr : Room (k + 1) X.A) (hg : Gl X x) (hm : X.mg x = some (.ref C)) (hb : Binds X.K fd ps ds) (hd : Vals dvs ds) (hx : Passes CX X E)
    (ha : PA X (e :: es) t) (hdb : (x == ("__debug__" : Str)) = false := by decide) (he : starEach (e :: es) X.env = (false, eval e X.env) :: starEach es X.env := by rfl) (hpl : (backTo pos (starEach es X.env)).any (·.1) = false := by rfl) :
    PE X (.Call (.Name x p) (e :: es) [] pos) (tMake C sp dvs E t) := by
  intro pins s σ H Q I h
  refine wpAny_Call_Name_kw (ld_glob I hg hm ?_ hdb)
  refine PySem.W.callWith_K (h₀ := X.base) I.ok.mod.kin M.kp (thn (ha pos pins s σ H _ I h) fun us s1 ⟨vs, H1, I1, r, q⟩ => ⟨I1.kIn, ?_⟩) he hpl
  exact run_make M F hr hb hd hx I1 r q
theorem pe_make0 (M : Mk X.K C f) (F : FnOk X.prog X.w X.K X.mg X.base CX k f fd ps sp) (hr : Room (k + 1) X.A) (hg : Gl X x) (hm : X.mg x = some (.ref C)) (hb : Binds X.K fd ps ds) (hd : Vals dvs ds) (hx : Passes CX X E)
    (hdb : (x == ("__debug__" : Str)) = false := by decide) : PE X (.Call (.Name x p) [] [] pos) (tMake C sp dvs E tNil) := by
  intro pins s σ H Q I h
  refine wpAny_Call_Name_kw (ld_glob I hg hm ?_ hdb)
  exact PySem.W.callWith_K0 I.kIn M.kp (run_make (us := []) M F hr hb hd hx I .nil h)
end
section
variable {X : Cx} {CX : CXT} {k : Nat} {f C : Addr} {fd : FuncData} {ps ks : List Str} {sp : Sp} {E : XK} {x m : Str} {p pos apos kpos : Pos} {e o : Expr} {es : List Expr} {kws : List Keyword} {te ta : TE} {t tk : TA} {nm : Option Str}
structure KBinds (K : PySem.W.Frag) (fd : FuncData) (ps ks : List Str) (g : List Value → List Value → List Value) (gV : List V → List V → List V) : Prop where
  to : ∀ (s : Shared) (us ws : List Value), K.In s.heap → (g us ws).length = ps.length → BindsTo s fd ⟨us, ks.zip ws⟩ (ps.zip (g us ws))
  rel : ∀ {vs : List V} {us : List Value} {zs : List V} {ws : List Value}, Vals vs us → Vals zs ws → Vals (gV vs zs) (g us ws)
variable {g : List Value → List Value → List Value} {gV : List V → List V → List V}
end
structure FnScope (N P : List Str) (sc : Scope) : Prop where
  kind : sc.kind = .function
  co : sc.isCoroutine = false
  gen : sc.isGenerator = false
  nd : N.Nodup
  pre : N.take P.length = P
  par : ∀ x ∈ P, sc.names.lookup x = some .local ∨ sc.names.lookup x = some .cell
  nofree : ∀ y ∈ sc.names, y.2 ≠ .free
theorem bindL_out {kindOf : Str → Option NameKind} {x : Str} : ∀ {binds : List (Str × Value)} {m : Str → Option Value}, (∀ v, (x, v) ∉ binds) → bindL kindOf binds m x = m x
  | [], _, _ => rfl
  | (n, v) :: r, m, h => by
    unfold bindL
    rw [bindL_out fun w hw => h w (List.mem_cons_of_mem _ hw)]
    split
    · have : x ≠ n := by rintro rfl; exact h v List.mem_cons_self
      simp [this]
    · rfl
theorem bindC_out {kindOf : Str → Option NameKind} {x : Str} : ∀ {binds : List (Str × Value)} {m : Str → Option Value}, (∀ v, (x, v) ∉ binds) → bindC kindOf binds m x = m x
  | [], _, _ => rfl
  | (n, v) :: r, m, h => by
    unfold bindC
    rw [bindC_out fun w hw => h w (List.mem_cons_of_mem _ hw)]
    split
    · rfl
    · have : x ≠ n := by rintro rfl; exact h v List.mem_cons_self
      simp [this]
theorem bindL_get {kindOf : Str → Option NameKind} {x : Str} {v : Value} : ∀ {P : List Str} {vs : List Value} {i : Nat} {m : Str → Option Value}, P.Nodup → P[i]? = some x → vs[i]? = some v → kindOf x = some .local →
    bindL kindOf (P.zip vs) m x = some v
  | [], _, _, _, _, h, _, _ => by simp at h
  | _ :: _, [], _, _, _, _, h, _ => by simp at h
  | p :: P, w :: vs, 0, m, nd, h1, h2, hk => by
    simp at h1 h2; subst h1; subst h2
    show bindL kindOf ((p, w) :: P.zip vs) m p = _
    unfold bindL
    rw [bindL_out fun v hv => (List.nodup_cons.mp nd).1 (List.of_mem_zip hv).1, if_pos hk]
    simp
  | p :: P, w :: vs, i + 1, m, nd, h1, h2, hk => by
    show bindL kindOf ((p, w) :: P.zip vs) m x = _
    unfold bindL
    exact bindL_get (i := i) (List.nodup_cons.mp nd).2 (by simpa using h1) (by simpa using h2) hk
theorem bindC_get {kindOf : Str → Option NameKind} {x : Str} {v : Value} : ∀ {P : List Str} {vs : List Value} {i : Nat} {m : Str → Option Value}, P.Nodup → P[i]? = some x → vs[i]? = some v → kindOf x ≠ some .local →
    bindC kindOf (P.zip vs) m x = some v
  | [], _, _, _, _, h, _, _ => by simp at h
  | _ :: _, [], _, _, _, _, h, _ => by simp at h
  | p :: P, w :: vs, 0, m, nd, h1, h2, hk => by
    simp at h1 h2; subst h1; subst h2
    show bindC kindOf ((p, w) :: P.zip vs) m p = _
    unfold bindC
    rw [bindC_out fun v hv => (List.nodup_cons.mp nd).1 (List.of_mem_zip hv).1, if_neg hk]
    simp
  | p :: P, w :: vs, i + 1, m, nd, h1, h2, hk => by
    show bindC kindOf ((p, w) :: P.zip vs) m x = _
    unfold bindC
    exact bindC_get (i := i) (List.nodup_cons.mp nd).2 (by simpa using h1) (by simpa using h2) hk
def start (N : List Str) (vs : List V) : St := vs.map some ++ List.replicate (N.length - vs.length) none
def cxOf (CX : CXT) (P : Program) (w : World) (K : PySem.W.Frag) (mg : Str → Option Value) (base : Heap) (N : List Str) (qual : Str) (scope : Scope) (f : Addr) (cd : Value) (A : Around) (outer : List Env) (s : Shared) (H : Hp) (E : XK) : Cx where
  prog := P
  w := w
  K := K
  mg := mg
  base := base
  A := A.deeper (envOfC qual scope s.heap.objs.size f cd)
  N := N
  s₀ := s
  H₀ := H
  env := envOfC qual scope s.heap.objs.size f cd
  outer := outer
  stack := envOfC qual scope s.heap.objs.size f cd :: outer
  ex := []
  calm := true
  fn := fun _ => true
  pn := []
  xe := fun e s' => wpAny (model P w) (A.deeper (envOfC qual scope s.heap.objs.size f cd)) (leaving (envOfC qual scope s.heap.objs.size f cd) e) (fun _ s'' => CX outer H s E e s'') (fun e' s'' => CX outer H s E e' s'') s'
theorem cell_has {sc : Scope} {n : Nat} {x : Str} (h : sc.names.lookup x = some .cell) : ∃ c, (cellsFrom n sc.names []).lookup x = some c := by
  have q := PySem.W.cellsFrom_some sc.names n [] (.inl h)
  exact Option.isSome_iff_exists.mp q
theorem inv_start {CX : CXT} {P : Program} {w : World} {K : PySem.W.Frag} {mg : Str → Option Value} {base : Heap} {N ps : List Str} {qual : Str} {scope : Scope} {f : Addr} {cd : Value} {A : Around} {outer : List Env} {s s1 : Shared} {H : Hp} {E : XK} {us : List Value} {vs : List V}
    (S : FnScope N ps scope) (hd : A.handled = none) (e0 : Env0 P w K mg base A outer s H) (hl : vs.length = ps.length) (r : Vals vs us)
    (x : InCallC s s.heap.objs.size (bindL (envOfC qual scope s.heap.objs.size f cd).kindOf (ps.zip us) fun _ => none) (cellsFrom (s.heap.objs.size + 1) scope.names []) (bindC (envOfC qual scope s.heap.objs.size f cd).kindOf (ps.zip us) fun _ => none) s1) :
    Inv (cxOf CX P w K mg base N qual scope f cd A outer s H E) [] (start N vs) H s1 := by
  have hpl : ps.length ≤ N.length := by have := congrArg List.length S.pre; rw [List.length_take] at this; omega
  obtain ⟨h1, tk, rfl, hk⟩ := x.done
  have noA : ∀ b : Addr, b ∉ (cxOf CX P w K mg base N qual scope f cd A outer s H E).ex := fun b z => absurd (show b ∈ ([] : List Addr) from z) (by simp)
  refine ⟨⟨e0.mod, S.kind, rfl, rfl, Nat.le_refl _, fun y z c h1 h2 => ?_, fun y hy => ?_, fun y c _ h => ?_, fun _ => hd, Around.frames_deeper e0.frames, .inr ⟨rfl, rfl⟩, fun b z => absurd z (noA b), e0.bs, e0.bsz, fun b _ _ => noA b, fun b z => absurd z (noA b), e0.funs, e0.frf⟩,
    rfl, e0.bare, Un.kept hk, ⟨_, x.toInCall.ns, fun i y v h1 h2 h3 => ?_⟩, fun y c h => ⟨_, x.cell y c h⟩, e0.hok.fresh (Nat.le_refl _), fun y c h => ?_, fun p hp => absurd (show p ∈ ([] : List (Addr × Obj)) from hp) (by simp), e0.hok.kept hk, ?_⟩
  · exact name_of_addr x.apart (PySem.mem_of_lookup h1) (PySem.mem_of_lookup h2)
  · have hy : scope.names.lookup y = some .cell ∨ scope.names.lookup y = some .free := hy
    rcases hy with hy | hy
    · exact cell_has hy
    · exact absurd rfl (S.nofree _ (PySem.mem_of_lookup hy))
  · exact Nat.le_of_lt (x.above y c (PySem.mem_of_lookup h))
  · have hi : i < vs.length := by
      unfold start at h2
      by_cases hi : i < vs.length
      · exact hi
      · rw [List.getElem?_append_right (by simpa using hi)] at h2
        rw [List.getElem?_replicate] at h2
        split at h2 <;> cases h2
    have ha : vs[i]? = some v := by
      unfold start at h2
      rw [List.getElem?_append_left (by simpa using hi), List.getElem?_map] at h2
      cases e : vs[i]? with
      | none => rw [e] at h2; cases h2
      | some a => rw [e] at h2; cases h2; rfl
    obtain ⟨u, hu, rv⟩ := r.get ha
    have hp : ps[i]? = some y := by
      rw [← S.pre, List.getElem?_take_of_lt (by omega)]; exact h1
    have ndP : ps.Nodup := by rw [← S.pre]; exact S.nd.sublist (List.take_sublist _ _)
    refine ⟨u, rv, ?_⟩
    rcases S.par y (List.mem_of_getElem? hp) with k | k
    · exact .inl ⟨k, bindL_get ndP hp hu k⟩
    · obtain ⟨c, e⟩ := cell_has (n := s.heap.objs.size + 1) k
      refine .inr ⟨.inl k, c, e, ?_⟩
      have q := x.cell y c e
      rw [bindC_get ndP hp hu (by show scope.names.lookup y ≠ _; rw [k]; decide)] at q
      exact q
  · exact e0.hok.fresh (Nat.le_of_lt (x.above y c (PySem.mem_of_lookup h)))
  · unfold start
    show _ = N.length
    rw [List.length_append, List.length_map, List.length_replicate]
    omega
theorem fn_of {CX : CXT} {P : Program} {w : World} {K : PySem.W.Frag} {mg : Str → Option Value} {base : Heap} {k : Nat} {f : Addr} {name qual : Str} {params : Arguments} {body : List Stmt} {scope : Scope} {dV kV doc pm cdv ct oc : Value} {an od : Option Addr}
    {osl : Array (Option Value)} {N ps : List Str} {sp : Sp} (lk : K.lookup f = some ⟨oc, od, .func (PySem.W.fnOf name qual params body scope dV kV doc pm an cdv ct), osl⟩) (hcd : PySem.W.codeIn K cdv qual = true) (S : FnScope N ps scope)
    (len : ∀ vs H Q E, sp vs H Q E → vs.length = ps.length)
    (hbody : ∀ (A : Around) (outer : List Env) (s : Shared) (H : Hp) (vs : List V) (Q : VK) (E : XK), Room k (A.deeper (envOfC qual scope s.heap.objs.size f cdv)) → sp vs H Q E →
      ∃ t, PSs (cxOf CX P w K mg base N qual scope f cdv A outer s H E) body t ∧ t { nx := fun _ H' => Q .non H', rt := Q } (start N vs) H) :
    FnOk P w K mg base CX (k + 1) f (PySem.W.fnOf name qual params body scope dV kV doc pm an cdv ct) ps sp := by
  refine ⟨len, fun A outer s H args us vs Q E hr e0 hb r hsp => ?_⟩
  have hl := len _ _ _ _ hsp
  have KX : K.In s.heap := e0.mod.kin.keeps fun b o e => (e0.bs b o e).1
  have lim : s.heap.NoLimit := e0.mod.nolimit.keeps fun b o e => (e0.bs b o e).1
  have hkind : ∀ y ∈ ps.zip us, scope.names.lookup y.1 = some .local ∨ (scope.names.lookup y.1 = some .cell ∧ ((cellsFrom (s.heap.objs.size + 1) scope.names []).lookup y.1).isSome = true) := fun ⟨n, v⟩ hy => by
    rcases S.par n (List.of_mem_zip hy).1 with q | q
    · exact .inl q
    · exact .inr ⟨q, PySem.W.cellsFrom_some _ _ _ (.inl q)⟩
  refine codeAny_call_function hr.depth (KX _ _ lk) rfl S.co S.gen rfl (PySem.W.codeRec_of KX hcd) (hb _ _ _ _ ?_)
  refine wpAny_newFunctionEnv_cells S.kind hkind fun env he s1 x => ?_
  subst he
  refine ⟨lim.keeps x.toInCall.keep, codeAny_func ?_⟩
  obtain ⟨t, ht, hq⟩ := hbody A outer s H vs Q E (hr.deeper _) hsp
  have I : Inv (cxOf CX P w K mg base N qual scope f cdv A outer s H E) [] (start N vs) H s1 := inv_start S hr.hd e0 hl r x
  refine wpAny_mono (ht [] s1 (start N vs) H _ I hq) (fun fl s' hs => ?_) fun e s' hs => hs
  have fin : ∀ {σ' : St} {H' : Hp} {v : V} {u : Value}, Inv (cxOf CX P w K mg base N qual scope f cdv A outer s H E) [] σ' H' s' → RelV v u → Q v H' → CE outer P w H s Q u s' :=
    fun {σ' H' v u} J rv q => ⟨v, H', J.os, J.bare, J.base, J.hok, rv, q⟩
  cases fl with
  | ret u =>
    obtain ⟨v, σ', H', J, rv, q⟩ := hs
    exact fin J rv q
  | next =>
    obtain ⟨σ', H', J, q⟩ := hs
    exact fin (v := V.non) (u := Value.none) J rfl q
  | brk =>
    obtain ⟨_, _, _, q⟩ := hs
    exact False.elim q
  | cont =>
    obtain ⟨_, _, _, q⟩ := hs
    exact False.elim q
end L2
namespace L2
open PySem PySem.Spec PyProof.Rows
section
variable {X : Cx} {x : Str} {p pos : Pos} {e : Expr} {es : List Expr} {t : TA} {id T : String} {r : List V → Hp → VK → Prop}
def tCB (r : List V → Hp → VK → Prop) (t : TA) : TE := fun σ H Q => t σ H fun vs H1 => r vs H1 Q
theorem pe_callB (hc : CallR X (.builtin id) r) (hg : Gl X x) (hm : X.mg x = none) (hv : bootBuiltins x = some (.builtin id)) (ha : PA X (e :: es) t) (hn : x ≠ "__name__" := by decide) (hdb : (x == ("__debug__" : Str)) = false := by decide)
    (he : starEach (e :: es) X.env = (false, eval e X.env) :: starEach es X.env := by rfl) (hpl : (backTo pos (starEach es X.env)).any (·.1) = false := by rfl) : PE X (.Call (.Name x p) (e :: es) [] pos) (tCB r t) := by
  intro pins s σ H Q I h
  refine wpAny_Call_Name_kw (ld_blt I hg hm hv ?_ hn hdb)
  exact PyProof.Rows.callWith_builtin1 (thn (ha pos pins s σ H _ I h) fun us s1 ⟨vs, H1, I1, r1, q1⟩ => hc pins s1 σ H1 vs us Q I1 r1 q1) he hpl
theorem pe_callTy (hc : CallR X (.type T) r) (hg : Gl X x) (hm : X.mg x = none) (hv : bootBuiltins x = some (.type T)) (ha : PA X (e :: es) t) (hn : x ≠ "__name__" := by decide) (hdb : (x == ("__debug__" : Str)) = false := by decide)
    (he : starEach (e :: es) X.env = (false, eval e X.env) :: starEach es X.env := by rfl) (hpl : (backTo pos (starEach es X.env)).any (·.1) = false := by rfl) : PE X (.Call (.Name x p) (e :: es) [] pos) (tCB r t) := by
  intro pins s σ H Q I h
  refine wpAny_Call_Name_kw (ld_blt I hg hm hv ?_ hn hdb)
  exact PyProof.Rows.callWith_type1 (thn (ha pos pins s σ H _ I h) fun us s1 ⟨vs, H1, I1, r1, q1⟩ => hc pins s1 σ H1 vs us Q I1 r1 q1) he hpl
end
end L2
namespace L2
open PySem PySem.Spec PyProof.Rows
section
variable {κ : Type} [DecidableEq κ]
def valV (kvs : List (κ × V)) (k : κ) : Option V := (kvs.find? fun kv => decide (kv.1 = k)).map (·.2)
def putK (kvs : List (κ × V)) (k : κ) (v : V) : List (κ × V) :=
  if (kvs.any fun kv => decide (kv.1 = k)) = true then kvs.map (fun kv => if kv.1 = k then (kv.1, v) else kv) else kvs ++ [(k, v)]
theorem valV_pos {p : κ × V} {r : List (κ × V)} {k : κ} (e : p.1 = k) : valV (p :: r) k = some p.2 := by simp [valV, List.find?_cons, e]
theorem valV_neg {p : κ × V} {r : List (κ × V)} {k : κ} (e : ¬ p.1 = k) : valV (p :: r) k = valV r k := by simp [valV, List.find?_cons, e]
theorem valV_any (k : κ) : ∀ kvs : List (κ × V), (kvs.any fun kv => decide (kv.1 = k)) = (valV kvs k).isSome
  | [] => rfl
  | p :: r => by
    rw [List.any_cons]
    by_cases e : p.1 = k
    · simp only [valV_pos e, decide_eq_true e, Bool.true_or, Option.isSome_some]
    · rw [valV_neg e, decide_eq_false e, Bool.false_or]; exact valV_any k r
theorem valV_map (k j : κ) (y : V) : ∀ kvs : List (κ × V), valV (kvs.map fun kv => if kv.1 = k then (kv.1, y) else kv) j = (valV kvs j).map fun x => if j = k then y else x
  | [] => rfl
  | p :: r => by
    have ih := valV_map k j y r
    rw [List.map_cons]
    by_cases h : p.1 = k
    · rw [if_pos h]
      by_cases e : p.1 = j
      · rw [valV_pos (p := (p.1, y)) e, valV_pos e, Option.map_some, if_pos (e.symm.trans h)]
      · rw [valV_neg (p := (p.1, y)) e, valV_neg e, ih]
    · rw [if_neg h]
      by_cases e : p.1 = j
      · rw [valV_pos (p := p) e, valV_pos e, Option.map_some, if_neg (fun z => h (e.trans z))]
      · rw [valV_neg (p := p) e, valV_neg e, ih]
theorem valV_snoc (k j : κ) (y : V) : ∀ kvs : List (κ × V), valV kvs k = none → valV (kvs ++ [(k, y)]) j = if j = k then some y else valV kvs j
  | [], _ => by
    by_cases e : k = j
    · rw [if_pos e.symm]; exact valV_pos (p := (k, y)) e
    · rw [if_neg (fun z => e z.symm)]; exact valV_neg (p := (k, y)) e
  | p :: r, hn => by
    rw [List.cons_append]
    have hk : ¬ p.1 = k := fun z => by rw [valV_pos z] at hn; cases hn
    rw [valV_neg hk] at hn
    have ih := valV_snoc k j y r hn
    by_cases e : p.1 = j
    · rw [valV_pos e, valV_pos e, if_neg (fun z => hk (e.trans z))]
    · rw [valV_neg e, valV_neg e, ih]
theorem valV_put (kvs : List (κ × V)) (k j : κ) (y : V) : valV (putK kvs k y) j = if j = k then some y else valV kvs j := by
  unfold putK
  by_cases a : (kvs.any fun kv => decide (kv.1 = k)) = true
  · rw [if_pos a, valV_map]
    rw [valV_any] at a
    by_cases e : j = k
    · obtain ⟨x, hx⟩ := Option.isSome_iff_exists.mp a
      rw [if_pos e, e, hx, Option.map_some, if_pos rfl]
    · rw [if_neg e]
      cases valV kvs j with
      | none => rfl
      | some x => rw [Option.map_some, if_neg e]
  · rw [if_neg a]
    refine valV_snoc k j y kvs ?_
    rw [valV_any] at a
    cases q : valV kvs k with
    | none => rfl
    | some x => rw [q] at a; exact (a rfl).elim
theorem length_putK (kvs : List (κ × V)) (k : κ) (v : V) : (putK kvs k v).length ≤ kvs.length + 1 := by
  unfold putK
  split
  · rw [List.length_map]; omega
  · rw [List.length_append, List.length_cons, List.length_nil]; omega
theorem RelO.isSome_eq {o : Option V} {u : Option Value} (r : RelO o u) : o.isSome = u.isSome := by
  cases o with
  | none => cases u with
    | none => rfl
    | some _ => exact (show False from r).elim
  | some _ => cases u with
    | none => exact (show False from r).elim
    | some _ => rfl
theorem RelO.getD {o : Option V} {u : Option Value} {d : V} {d' : Value} (r : RelO o u) (rd : RelV d d') : RelV (o.getD d) (u.getD d') := by
  cases o with
  | none => cases u with
    | none => exact rd
    | some _ => exact (show False from r).elim
  | some _ => cases u with
    | none => exact (show False from r).elim
    | some _ => exact r
theorem KV.val {kvs : List (κ × V)} {vs : List (κ × Value)} (r : KV kvs vs) (k : κ) : RelO (valV kvs k) (valueAt vs k) := by
  unfold KV at r
  induction r with
  | nil => exact True.intro
  | @cons p q ps qs h t ih =>
    obtain ⟨h1, h2⟩ := h
    by_cases e : p.1 = k
    · have e' : q.1 = k := h1.symm.trans e
      have b : valueAt (q :: qs) k = some q.2 := by simp [valueAt, List.find?_cons, e']
      rw [valV_pos e, b]; exact h2
    · have e' : ¬ q.1 = k := fun z => e (h1.trans z)
      have b : valueAt (q :: qs) k = valueAt qs k := by simp [valueAt, List.find?_cons, e']
      rw [valV_neg e, b]; exact ih
theorem KV.any {kvs : List (κ × V)} {vs : List (κ × Value)} (r : KV kvs vs) (k : κ) : (kvs.any fun kv => decide (kv.1 = k)) = vs.any fun kv => decide (kv.1 = k) := by
  unfold KV at r
  induction r with
  | nil => rfl
  | cons h t ih => rw [List.any_cons, List.any_cons, ih, h.1]
theorem KV.repl {kvs : List (κ × V)} {vs : List (κ × Value)} (r : KV kvs vs) (k : κ) {y : V} {u : Value} (ry : RelV y u) :
    KV (kvs.map fun kv => if kv.1 = k then (kv.1, y) else kv) (vs.map fun kv => if kv.1 = k then (kv.1, u) else kv) := by
  unfold KV at r ⊢
  induction r with
  | nil => exact .nil
  | @cons p q ps qs h t ih =>
    rw [List.map_cons, List.map_cons]
    refine .cons ?_ ih
    obtain ⟨h1, h2⟩ := h
    by_cases e : p.1 = k
    · rw [if_pos e, if_pos (h1.symm.trans e)]; exact ⟨h1, ry⟩
    · rw [if_neg e, if_neg (fun z => e (h1.trans z))]; exact ⟨h1, h2⟩
theorem KV.put {kvs : List (κ × V)} {vs : List (κ × Value)} (r : KV kvs vs) (k : κ) {y : V} {u : Value} (ry : RelV y u) : KV (putK kvs k y) (stored vs k u) := by
  unfold putK stored
  rw [r.any k]
  by_cases e : (vs.any fun kv => decide (kv.1 = k)) = true
  · rw [if_pos e, if_pos e]; exact r.repl k ry
  · rw [if_neg e, if_neg e]; exact Paired.snoc r ⟨rfl, ry⟩
theorem KV.keys {kvs : List (κ × V)} {vs : List (κ × Value)} (r : KV kvs vs) : kvs.map (·.1) = vs.map (·.1) := by
  unfold KV at r
  induction r with
  | nil => rfl
  | cons h t ih => rw [List.map_cons, List.map_cons, ih, h.1]
theorem KV.length {kvs : List (κ × V)} {vs : List (κ × Value)} (r : KV kvs vs) : kvs.length = vs.length := Paired.length r
end
theorem kV_is {P : Program} {w : World} {k : Key} {u : Value} (r : RelV (kV k) u) : (mixKind P w).is k u = true := by
  cases k with
  | inl i => obtain ⟨t, e⟩ := (show ∃ t, u = Value.int i t from r); subst e; exact mixKind_int P w i t
  | inr x => obtain ⟨t, e⟩ := (show ∃ t, u = Value.str x t from r); subst e; exact mixKind_str P w x t
abbrev KT (H : Hp) : List (List Key × V) → List (List Key × Addr × Value) → Prop := Paired fun p q => p.1 = q.1 ∧ H q.2.1 = some (.tup (p.1.map kV)) ∧ RelV p.2 q.2.2
theorem KT.val {H : Hp} {kvs : List (List Key × V)} {xs : List (List Key × Addr × Value)} (r : KT H kvs xs) (k : List Key) : RelO (valV kvs k) ((atKey xs k).map (·.2)) := by
  induction r with
  | nil => exact True.intro
  | @cons p q ps qs h t ih =>
    obtain ⟨h1, _, h2⟩ := h
    by_cases e : p.1 = k
    · have e' : q.1 = k := h1.symm.trans e
      have b : atKey (q :: qs) k = some q.2 := by simp [atKey, List.find?_cons, e']
      rw [valV_pos e, b]; exact h2
    · have e' : ¬ q.1 = k := fun z => e (h1.trans z)
      have b : atKey (q :: qs) k = atKey qs k := by simp [atKey, List.find?_cons, e']
      rw [valV_neg e, b]; exact ih
theorem KT.repl {H : Hp} {kvs : List (List Key × V)} {xs : List (List Key × Addr × Value)} (r : KT H kvs xs) (k : List Key) {y : V} {u : Value} (ry : RelV y u) :
    KT H (kvs.map fun kv => if kv.1 = k then (kv.1, y) else kv) (xs.map (putAt k u)) := by
  induction r with
  | nil => exact .nil
  | @cons p q ps qs h t ih =>
    rw [List.map_cons, List.map_cons]
    refine .cons ?_ ih
    obtain ⟨h1, h2, h3⟩ := h
    unfold putAt
    by_cases e : p.1 = k
    · rw [if_pos e, if_pos (h1.symm.trans e)]; exact ⟨h1, h2, ry⟩
    · rw [if_neg e, if_neg (fun z => e (h1.trans z))]; exact ⟨h1, h2, h3⟩
theorem KT.put {H : Hp} {kvs : List (List Key × V)} {xs : List (List Key × Addr × Value)} (r : KT H kvs xs) (k : List Key) {b : Addr} {y : V} {u : Value} (hb : H b = some (.tup (k.map kV))) (ry : RelV y u) :
    KT H (putK kvs k y) (storedH xs k b u) := by
  have e : (kvs.any fun kv => decide (kv.1 = k)) = (atKey xs k).isSome := by
    rw [valV_any, (r.val k).isSome_eq, Option.isSome_map]
  unfold putK storedH
  rw [e]
  by_cases q : (atKey xs k).isSome = true
  · rw [if_pos q, if_pos q]; exact r.repl k ry
  · rw [if_neg q, if_neg q]; exact Paired.snoc r ⟨rfl, hb, ry⟩
theorem KT.keeps {H H' : Hp} {kvs : List (List Key × V)} {xs : List (List Key × Addr × Value)} (r : KT H kvs xs) (ht : ∀ b ys, H b = some (.tup ys) → H' b = some (.tup ys)) : KT H' kvs xs :=
  Paired.mapP r fun _ _ z => ⟨z.1, ht _ _ z.2.1, z.2.2⟩
section
variable {P : Program} {w : World} {H : Hp} {h : Heap} {a : Addr}
theorem rd_of {u : HO} (ok : HOk P w H h) (e : Rd H a u) : ObjOk P w H h a u := e.ok ok
theorem dk_rd {kvs : List (Key × V)} (ok : HOk P w H h) (e : Rd H a (.dK kvs)) : kvs.length ≤ sizeLine ∧ (a == sysModules) = false ∧ ∃ vs, KV kvs vs ∧ h.DictOf (mixKind P w) a vs :=
  show ObjOk P w H h a (.dK kvs) from rd_of ok e
theorem dk_of {kvs : List (Key × V)} (ok : HOk P w H h) (e : H a = some (.dK kvs)) : kvs.length ≤ sizeLine ∧ (a == sysModules) = false ∧ ∃ vs, KV kvs vs ∧ h.DictOf (mixKind P w) a vs := dk_rd ok (.inl e)
end
def DGet (H : Hp) (a : Addr) (y : V) (r : Option V) : Prop :=
  (∃ kvs k, Rd H a (.dK kvs) ∧ y = kV k ∧ r = valV kvs k) ∨ ∃ kvs k b, Rd H a (.dT kvs) ∧ y = .ref b ∧ H b = some (.tup (k.map kV)) ∧ r = valV kvs k
def DPut (H : Hp) (a : Addr) (y v : V) (H' : Hp) : Prop :=
  (∃ kvs k, H a = some (.dK kvs) ∧ y = kV k ∧ kvs.length < sizeLine ∧ H' = upd H a (.dK (putK kvs k v))) ∨
  ∃ kvs k b, H a = some (.dT kvs) ∧ y = .ref b ∧ H b = some (.tup (k.map kV)) ∧ kvs.length < sizeLine ∧ H' = upd H a (.dT (putK kvs k v))
theorem DGet.k {H : Hp} {a : Addr} {kvs : List (Key × V)} {k : Key} (e : H a = some (.dK kvs)) : DGet H a (kV k) (valV kvs k) := .inl ⟨kvs, k, .inl e, rfl, rfl⟩
theorem DGet.t {H : Hp} {a b : Addr} {kvs : List (List Key × V)} {k : List Key} (e : H a = some (.dT kvs)) (eb : H b = some (.tup (k.map kV))) : DGet H a (.ref b) (valV kvs k) := .inr ⟨kvs, k, b, .inl e, rfl, eb, rfl⟩
theorem DPut.k {H : Hp} {a : Addr} {kvs : List (Key × V)} {k : Key} {v : V} (e : H a = some (.dK kvs)) (hl : kvs.length < sizeLine) : DPut H a (kV k) v (upd H a (.dK (putK kvs k v))) := .inl ⟨kvs, k, e, rfl, hl, rfl⟩
theorem DPut.t {H : Hp} {a b : Addr} {kvs : List (List Key × V)} {k : List Key} {v : V} (e : H a = some (.dT kvs)) (eb : H b = some (.tup (k.map kV))) (hl : kvs.length < sizeLine) :
    DPut H a (.ref b) v (upd H a (.dT (putK kvs k v))) := .inr ⟨kvs, k, b, e, rfl, eb, hl, rfl⟩
section
variable {X : Cx} {pins : List (Addr × Obj)} {σ : St} {H : Hp} {s : Shared} {a : Addr} {y v : V} {u r : Value} {o : Option V} {A : Around} {E : Value → Shared → Prop}
theorem Inv.big (I : Inv X pins σ H s) : sysModules < s.heap.objs.size := by
  have h : mainGlobals < s.heap.objs.size := (I.mod.glob.keeps I.bk).lt
  exact Nat.lt_trans (by decide) h
theorem d_write {h' : Heap} {t' : Nat} {ob : HO} (I : Inv X pins σ H s) (mu : Mut (H a)) (hs : Heap.SameBut a s.heap h') (he : ∃ q, h'.get? a = some q) (new : ObjOk X.prog X.w (upd H a ob) h' a ob) :
    Inv X pins σ (upd H a ob) { s with heap := h', toks := t' } :=
  I.write (x := a) (e := a) mu (.inl rfl) (fun b q hb z => (hs.2 b hb).trans z) he new
theorem dk_new {P : Program} {w : World} {H' : Hp} {h' : Heap} {kvs : List (Key × V)} {vs : List (Key × Value)} (z : kvs.length ≤ sizeLine) (hd : (a == sysModules) = false) (rel : KV kvs vs) (dd : h'.DictOf (mixKind P w) a vs) :
    ObjOk P w H' h' a (.dK kvs) := ⟨z, hd, vs, rel, dd⟩
end
section
variable {X : Cx} {pins : List (Addr × Obj)} {σ : St} {H : Hp} {s : Shared} {a : Addr} {kvs : List (Key × V)} {k : Key} {u : Value} {A : Around} {E : Value → Shared → Prop}
end
section
variable {X : Cx} {o i e value : Expr} {pos pos' tpos : Pos} {td ty tv : TE}
end
theorem dk_empty {P : Program} {w : World} {H : Hp} (h : Heap) (hb : sysModules < h.objs.size) : ObjOk P w H (h.push { cls := .type "dict", data := .dict #[] }) h.objs.size (.dK []) :=
  ⟨Nat.zero_le _, beq_eq_false_iff_ne.mpr (Ne.symm (Nat.ne_of_lt hb)), [], .nil, Heap.DictOf.new h⟩
def tDNewK : TE := fun _ H Q => ∀ p, H p = none → Q (.ref p) (upd H p (.dK []))
section
variable {X : Cx} {pos : Pos}
theorem pe_dnewK : PE X (.Dict [] [] pos) tDNewK := fun pins s σ H Q I h =>
  wpAny_Dict_empty ⟨.ref s.heap.objs.size, _, I.laid (a := s.heap.objs.size) (o := .dK []) (t' := s.toks) (fun _ _ q => Heap.get?_push_of_some _ q) (Nat.le_refl _) (dk_empty s.heap I.big), rfl, h _ (I.hok.fresh (Nat.le_refl _))⟩
end
def tPairs : List (TE × TE) → St → Hp → (List (V × V) → Hp → Prop) → Prop
  | [], _, H, Q => Q [] H
  | (tk, tv) :: r, σ, H, Q => tk σ H fun x H1 => tv σ H1 fun y H2 => tPairs r σ H2 fun ps H3 => Q ((x, y) :: ps) H3
abbrev VV : List (V × V) → List (Value × Value) → Prop := Paired fun p q => RelV p.1 q.1 ∧ RelV p.2 q.2
def PPs (X : Cx) (pos : Pos) (keys : List (Option Expr)) (values : List Expr) (trs : List (TE × TE)) : Prop :=
  ∀ (pins : List (Addr × Obj)) (s : Shared) (σ : St) (H : Hp) (Q : List (V × V) → Hp → Prop), Inv X pins σ H s → tPairs trs σ H Q →
    wpAny (model X.prog X.w) X.A (evalPairs (pairTrees keys values X.env pos)) (fun vs s' => ∃ ps H', Inv X pins σ H' s' ∧ VV ps vs ∧ Q ps H') X.xe s
theorem pps_nil {X : Cx} {pos : Pos} : PPs X pos [] [] [] := fun pins s σ H Q I h => pairTrees_nil_walk ⟨[], H, I, .nil, h⟩
theorem pps_cons {X : Cx} {pos : Pos} {k v : Expr} {ks : List (Option Expr)} {vs : List Expr} {tk tv : TE} {trs : List (TE × TE)} (hk : PE X k tk) (hv : PE X v tv) (hr : PPs X pos ks vs trs) :
    PPs X pos (some k :: ks) (v :: vs) ((tk, tv) :: trs) := fun pins s σ H Q I h =>
  pairTrees_cons_walk (thn (hk pins s σ H _ I h) fun u s1 ⟨x, H1, I1, rx, q1⟩ => thn (hv pins s1 σ H1 _ I1 q1) fun w2 s2 ⟨y, H2, I2, ry, q2⟩ =>
    thn (hr pins s2 σ H2 _ I2 q2) fun ws s3 ⟨ps, H3, I3, rel, q3⟩ => ⟨(x, y) :: ps, H3, I3, .cons ⟨rx, ry⟩ rel, q3⟩)
def mergeK (kvs more : List (Key × V)) : List (Key × V) := more.foldl (fun acc kv => putK acc kv.1 kv.2) kvs
theorem KV.merge : ∀ {more : List (Key × V)} {rs : List (Key × Value)} {kvs : List (Key × V)} {vs : List (Key × Value)}, KV more rs → KV kvs vs → KV (mergeK kvs more) (merged vs rs) := by
  intro more rs kvs vs r
  unfold KV at r
  induction r generalizing kvs vs with
  | nil => intro q; exact q
  | @cons p q ps qs h t ih =>
    intro r0
    have e : KV (putK kvs p.1 p.2) (stored vs q.1 q.2) := by
      have := r0.put p.1 h.2
      rw [← h.1]; exact this
    exact ih e
theorem length_mergeK : ∀ (more kvs : List (Key × V)), (mergeK kvs more).length ≤ kvs.length + more.length
  | [], kvs => by show kvs.length ≤ kvs.length + 0; omega
  | p :: r, kvs => by
    have h1 := length_mergeK r (putK kvs p.1 p.2)
    have h2 := length_putK kvs p.1 p.2
    show (mergeK (putK kvs p.1 p.2) r).length ≤ _
    rw [List.length_cons]; omega
theorem carries_of {P : Program} {w : World} : ∀ {kvs : List (Key × V)} {ws : List (Value × Value)}, VV (kvs.map fun kv => (kV kv.1, kv.2)) ws → ∃ rs, Carries (mixKind P w) ws rs ∧ KV kvs rs
  | [], _, r => by rw [List.map_nil] at r; cases r; exact ⟨[], True.intro, .nil⟩
  | p :: kvs, _, r => by
    rw [List.map_cons] at r
    cases r with
    | @cons a b as bs h t =>
      obtain ⟨rs, c, q⟩ := carries_of (P := P) (w := w) t
      obtain ⟨b1, b2⟩ := b
      exact ⟨(p.1, b2) :: rs, ⟨kV_is h.1, rfl, c⟩, .cons ⟨rfl, h.2⟩ q⟩
def tDisp (trs : List (TE × TE)) : TE := fun σ H Q => ∀ p, H p = none → tPairs trs σ (upd H p (.dK [])) fun ps H2 => H2 p = some (.dK []) ∧ ∃ kvs : List (Key × V), ps = kvs.map (fun kv => (kV kv.1, kv.2)) ∧ kvs.length ≤ 15 ∧ Q (.ref p) (upd H2 p (.dK (mergeK [] kvs)))
theorem pe_disp {X : Cx} {pos : Pos} {keys : List (Option Expr)} {values : List Expr} {trs : List (TE × TE)} (h : PPs X pos keys values trs) (hall : keys.all (·.isSome) = true) (hl : keys.length = values.length) (h0 : keys ≠ [])
    (h15 : keys.length ≤ 15) : PE X (.Dict keys values pos) (tDisp trs) := by
  intro pins s σ H Q I q
  have hn := I.hok.fresh (Nat.le_refl s.heap.objs.size)
  have I1 := I.laid (a := s.heap.objs.size) (o := .dK []) (h' := s.heap.push { cls := .type "dict", data := .dict #[] }) (t' := s.toks) (fun _ _ q => Heap.get?_push_of_some _ q) (Nat.le_refl _) (dk_empty s.heap I.big)
  refine wpAny_Dict_walk (knd := mixKind X.prog X.w) hall hl h0 h15 (thn (h pins _ σ _ _ I1 (q _ hn)) fun ws s2 ⟨ps, H2, I2, rel, e, kvs, ep, lk, q2⟩ => ?_)
  subst ep
  obtain ⟨rs, c, rk⟩ := carries_of (P := X.prog) (w := X.w) rel
  obtain ⟨z, hd, vs0, r0, dd⟩ := dk_of I2.hok e
  cases r0
  refine ⟨rs, c, dd, fun h' dd' hs => ⟨.ref s.heap.objs.size, _, ?_, rfl, q2⟩⟩
  have hz : (mergeK [] kvs).length ≤ sizeLine := by
    have h1 := length_mergeK kvs []
    rw [List.length_nil] at h1
    rw [sizeLine_eq]; omega
  have he : ∃ q, h'.get? s.heap.objs.size = some q := let ⟨q, _, _, hq, _⟩ := dd'; ⟨q, hq⟩
  exact d_write I2 (by rw [e]; exact True.intro) hs he (dk_new hz hd (rk.merge .nil) dd')
structure M1 (X : Cx) (o : Expr) (m : Str) (apos : Pos) (e : Expr) (cpos : Pos) : Prop where
  base : attributeBase o m X.env (eval o X.env) = eval o X.env
  few : ((backTo cpos (starEach [e] X.env)).all (fun x => !x.1) && (backToKw cpos (keywordEach [] X.env)).all (fun x => x.1.isSome)
    && decide (([e] : List Expr).length + ([] : List Keyword).length + (if ([] : List Keyword).isEmpty then 0 else 1) < 30)) = true
  line : (apos.endLine == cpos.line) = true
  trees : backTo cpos (starEach [e] X.env) = [(false, eval e X.env)]
structure M2 (X : Cx) (o : Expr) (m : Str) (apos : Pos) (e f : Expr) (cpos : Pos) : Prop where
  base : attributeBase o m X.env (eval o X.env) = eval o X.env
  few : ((backTo cpos (starEach [e, f] X.env)).all (fun x => !x.1) && (backToKw cpos (keywordEach [] X.env)).all (fun x => x.1.isSome)
    && decide (([e, f] : List Expr).length + ([] : List Keyword).length + (if ([] : List Keyword).isEmpty then 0 else 1) < 30)) = true
  line : (apos.endLine == cpos.line) = true
  trees : backTo cpos (starEach [e, f] X.env) = [(false, eval e X.env), (false, eval f X.env)]
section
variable {X : Cx} {pins : List (Addr × Obj)} {σ : St} {H : Hp} {s : Shared} {a : Addr} {y d : V} {u r : Value} {o : Option V} {A : Around} {E : Value → Shared → Prop}
end
section
variable {X : Cx} {o e f : Expr} {apos cpos : Pos} {td ty tx : TE}
end
section
variable {X : Cx} {pins : List (Addr × Obj)} {σ : St} {H : Hp} {s : Shared} {a : Addr} {kvs : List (Key × V)} {A : Around} {E : Value → Shared → Prop}
end
section
variable {X : Cx} {pins : List (Addr × Obj)} {σ : St} {H : Hp} {s : Shared} {a : Addr} {y : V} {u : Value} {A : Around} {E : Value → Shared → Prop}
end
end L2
namespace HT
open PySem PyProof.Rows
section
open PySem.SeqAt
open PySem.AutoSeq1 (wpAny_loadPart')
open PySem.MeetsSeq PySem.MeetsSeq2 PySem.MeetsSeq3
end
section
variable {prog : Program} {w : World} {A : Around} {E : Value → Shared → Prop} {s : Shared}
end
end HT
namespace L2
open PySem PySem.Spec PyProof.Rows
abbrev TO := St → Hp → (Option Int → Hp → Prop) → Prop
def tNoPart : TO := fun _ H Q => Q none H
def tPart (t : TE) : TO := fun σ H Q => t σ H fun x H1 => ∃ i, x = .int i ∧ Q (some i) H1
section
variable {X : Cx} {e : Expr} {te : TE} {lo hi : Option Expr} {tl th : TO} {pos p2 : Pos}
def SlR (X : Cx) (r : V → Option Int → Option Int → Hp → VK → Prop) : Prop :=
  ∀ (pins : List (Addr × Obj)) (s : Shared) (σ : St) (H : Hp) (x : V) (v vl vu : Value) (lo hi : Option Int) (sl : Addr) (Q : VK), Inv X pins σ H s → RelV x v → s.heap.IsSliceOf sl vl vu .none → IsPart vl lo → IsPart vu hi → r x lo hi H Q →
    ∃ T id, typeLookup (.type T) "__getitem__" = pure (some (.builtin id)) ∧ s.TypeIs v T ∧ wpAny (model X.prog X.w) X.A (getItem v (.ref sl)) (EP X pins σ Q) X.xe s
theorem SlR.or {r r' : V → Option Int → Option Int → Hp → VK → Prop} (h : SlR X r) (h' : SlR X r') : SlR X (fun x lo hi H Q => r x lo hi H Q ∨ r' x lo hi H Q) := by
  intro pins s σ H x v vl vu lo hi sl Q I rx hs pl pu q
  rcases q with q | q
  · exact h pins s σ H x v vl vu lo hi sl Q I rx hs pl pu q
  · exact h' pins s σ H x v vl vu lo hi sl Q I rx hs pl pu q
def tSl (r : V → Option Int → Option Int → Hp → VK → Prop) (te : TE) (tl th : TO) : TE := fun σ H Q => te σ H fun x H1 => tl σ H1 fun l H2 => th σ H2 fun u H3 => r x l u H3 Q
end
end L2
namespace L2
open PySem PySem.Spec PyProof.Rows
def ixN (n : Nat) (i : Int) : Option Nat := if 0 ≤ i then (if i < n then some i.toNat else none) else if -(n : Int) ≤ i then some (i + n).toNat else none
def atI {α : Type} (xs : List α) (i : Int) : Option α := (ixN xs.length i).bind fun j => xs[j]?
theorem ixN_seq {n : Nat} {i : Int} {j : Nat} (h : ixN n i = some j) : seqIndex? i n = some j ∧ j < n ∧ -(n : Int) ≤ i ∧ i < n := by
  unfold ixN at h
  by_cases h0 : 0 ≤ i
  · rw [if_pos h0] at h
    by_cases h1 : i < n
    · rw [if_pos h1] at h
      have e : i.toNat = j := Option.some.inj h
      exact ⟨by rw [seqIndex_of h0 h1, e], by omega, by omega, h1⟩
    · rw [if_neg h1] at h; cases h
  · rw [if_neg h0] at h
    by_cases h1 : -(n : Int) ≤ i
    · rw [if_pos h1] at h
      have e : (i + n).toNat = j := Option.some.inj h
      exact ⟨by rw [seqIndex_neg (by omega) h1, e], by omega, h1, by omega⟩
    · rw [if_neg h1] at h; cases h
theorem atI_get {α : Type} {xs : List α} {i : Int} {v : α} (h : atI xs i = some v) : ∃ j, seqIndex? i xs.length = some j ∧ xs[j]? = some v ∧ j < xs.length ∧ -(xs.length : Int) ≤ i ∧ i < xs.length := by
  unfold atI at h
  cases e : ixN xs.length i with
  | none => rw [e] at h; cases h
  | some j =>
    rw [e] at h
    obtain ⟨h1, h2, h3, h4⟩ := ixN_seq e
    exact ⟨j, h1, h, h2, h3, h4⟩
theorem atI_nat {α : Type} {xs : List α} {j : Nat} {v : α} (h : xs[j]? = some v) : atI xs (j : Int) = some v := by
  have hj : j < xs.length := (List.getElem?_eq_some_iff.mp h).1
  have e : ixN xs.length (j : Int) = some j := by
    unfold ixN
    rw [if_pos (by omega), if_pos (by omega)]; simp
  unfold atI; rw [e]; exact h
def PlainIx (b : Expr) : Prop := ∀ o i, subscripted b false o i = operate [o, i] (getItem o i)
def IxR (X : Cx) (r : R2) : Prop :=
  ∀ (value slice : Expr) (pins : List (Addr × Obj)) (s : Shared) (σ : St) (H : Hp) (x y : V) (v u : Value) (Q : VK), Inv X pins σ H s → RelV x v → RelV y u → r x y H Q →
    subscripted slice false v u = operate [v, u] (getItem v u) → wpAny (model X.prog X.w) X.A (subscriptTail value slice v u) (EP X pins σ Q) X.xe s
def MtR (X : Cx) (id : String) (r : V → List V → Hp → VK → Prop) : Prop :=
  ∀ (pins : List (Addr × Obj)) (s : Shared) (σ : St) (H : Hp) (x : V) (xs : List V) (v : Value) (us : List Value) (Q : VK), Inv X pins σ H s → RelV x v → Vals xs us → r x xs H Q →
    wpAny (model X.prog X.w) X.A (call (.builtin id) (v :: us)) (EP X pins σ Q) X.xe s
section
variable {X : Cx} {a b : Expr} {ta tb : TE} {pos : Pos}
theorem IxR.or {r r' : R2} (h : IxR X r) (h' : IxR X r') : IxR X (fun x y H Q => r x y H Q ∨ r' x y H Q) := by
  intro value slice pins s σ H x y v u Q I rx ry q hs
  rcases q with q | q
  · exact h value slice pins s σ H x y v u Q I rx ry q hs
  · exact h' value slice pins s σ H x y v u Q I rx ry q hs
theorem MtR.or {id : String} {r r' : V → List V → Hp → VK → Prop} (h : MtR X id r) (h' : MtR X id r') : MtR X id (fun x xs H Q => r x xs H Q ∨ r' x xs H Q) := by
  intro pins s σ H x xs v us Q I rx rs q
  rcases q with q | q
  · exact h pins s σ H x xs v us Q I rx rs q
  · exact h' pins s σ H x xs v us Q I rx rs q
theorem pe_ix {r : R2} (hr : IxR X r) (ha : PE X a ta) (hb : PE X b tb) (hs : PlainIx b) : PE X (.Subscript a b pos) (tOp r ta tb) := by
  intro pins s σ H Q I h
  exact Subscript_ (binT ha hb I h fun v u s2 x y H2 I2 rx ry q => hr a b pins s2 σ H2 x y v u Q I2 rx ry q (hs _ _))
def rIxL (K : PySem.W.Frag) : R2 := fun x y H Q => ∃ p xs i v, x = .ref p ∧ y = .int i ∧ SqL K H p xs ∧ atI xs i = some v ∧ Q v H
def rIxT (K : PySem.W.Frag) : R2 := fun x y H Q => ∃ p xs i v, x = .ref p ∧ y = .int i ∧ SqT K H p xs ∧ atI xs i = some v ∧ Q v H
theorem ix_list : IxR X (rIxL X.K) := by
  intro value slice pins s σ H x y v u Q I rx ry h hs
  obtain ⟨p, xs, i, z, rfl, rfl, hq, he, q⟩ := h
  cases rx
  obtain ⟨t, rfl⟩ := ry
  obtain ⟨its, r, pl, hz⟩ := I.list hq
  obtain ⟨j, h1, h2, h3, h4, h5⟩ := atI_get he
  obtain ⟨w, ew, rw'⟩ := r.get h2
  have hl := r.length
  have hn := line63
  have fin : EP X pins σ Q w s := ⟨z, H, I, rw', q⟩
  by_cases h0 : 0 ≤ i
  · have hj : i.toNat = j := by
      rw [seqIndex_of h0 h5] at h1
      exact Option.some.inj h1
    exact item_listR pl.isList h0 (by omega) (by rw [hj]; simpa using ew) fin hs
  · have hj : (i + (its.toArray.size : Int)).toNat = j := by
      rw [seqIndex_neg (by omega) h4] at h1
      rw [List.size_toArray, ← hl]
      exact Option.some.inj h1
    exact subscriptTail_builtinR (x := w) pl.isList.typeIs slot_list_getitem.lookup
      (wpAny_getItem_list_neg (Q := fun r s' => r = w ∧ EP X pins σ Q r s') pl.isList (by omega) (by rw [List.size_toArray] <;> omega) (by omega) (by rw [hj]; simpa using ew) ⟨rfl, fin⟩) hs
theorem ix_tup : IxR X (rIxT X.K) := by
  intro value slice pins s σ H x y v u Q I rx ry h hs
  obtain ⟨p, xs, i, z, rfl, rfl, hq, he, q⟩ := h
  cases rx
  obtain ⟨t, rfl⟩ := ry
  obtain ⟨its, r, pl, hz⟩ := I.tuple hq
  obtain ⟨j, h1, h2, h3, h4, h5⟩ := atI_get he
  obtain ⟨w, ew, rw'⟩ := r.get h2
  have hl := r.length
  have hn := line63
  have fin : EP X pins σ Q w s := ⟨z, H, I, rw', q⟩
  exact subscriptTail_builtinR (x := w) pl.typeIs slot_tuple_getitem.lookup
    (getItem_tuple (j := j) (Q := fun r s' => r = w ∧ EP X pins σ Q r s') pl (by omega) (by omega) (by rw [List.size_toArray, ← hl]; exact h1) (by simpa using ew) ⟨rfl, fin⟩) hs
theorem mapSeq_set (its : List Value) (n j : Nat) (u : Value) : Obj.mapSeq (·.setIfInBounds j u) { cls := .type "list", data := .seq its.toArray n } = { cls := .type "list", data := .seq (its.set j u).toArray n } := by
  simp [Obj.mapSeq]
theorem Inv.lst {pins : List (Addr × Obj)} {σ : St} {H : Hp} {s : Shared} {p : Addr} {xs : List V} (I : Inv X pins σ H s) (h : H p = some (.lst xs)) :
    ∃ (its : List Value) (n : Nat), Vals xs its ∧ s.heap.get? p = some { cls := .type "list", data := .seq its.toArray n } ∧ xs.length ≤ sizeLine := by
  obtain ⟨z, its, n, r, e⟩ := I.hok p _ h
  exact ⟨its, n, r, e, z⟩
theorem Inv.lstUpd {pins : List (Addr × Obj)} {σ : St} {H : Hp} {s : Shared} {p : Addr} {xs ys : List V} {its its' : List Value} {n n' : Nat} {f : Obj → Obj} (I : Inv X pins σ H s) (h : H p = some (.lst xs))
    (ho : s.heap.get? p = some { cls := .type "list", data := .seq its.toArray n }) (hf : f { cls := .type "list", data := .seq its.toArray n } = { cls := .type "list", data := .seq its'.toArray n' }) (r : Vals ys its') (hz : ys.length ≤ sizeLine) (t : Nat) :
    Inv X pins σ (upd H p (.lst ys)) { s with heap := s.heap.update p f, toks := t } := by
  have e : (s.heap.update p f).get? p = some { cls := .type "list", data := .seq its'.toArray n' } := by
    rw [Heap.get?_update_self f ho (by rw [hf] <;> rfl), hf]
  refine I.write (x := p) (e := p) (by rw [h]; trivial) (.inl rfl) (fun b u hb q => (Heap.get?_update_other _ _ (Ne.symm hb)).trans q) ⟨_, e⟩ ?_
  exact ⟨hz, its', n', r, e⟩
def rSetL : V → V → V → Hp → (Hp → Prop) → Prop := fun o i v H Q => ∃ p xs k j, o = .ref p ∧ i = .int k ∧ H p = some (.lst xs) ∧ ixN xs.length k = some j ∧ Q (upd H p (.lst (xs.set j v)))
theorem set_list : PSet X rSetL := by
  intro pins s σ H o i v ov iv u Q I ro ri rv h
  obtain ⟨p, xs, k, j, rfl, rfl, hp, hj, q⟩ := h
  cases ro
  obtain ⟨t, rfl⟩ := ri
  obtain ⟨its, n, r, ho, hz⟩ := I.lst hp
  obtain ⟨h1, h2, h3, h4⟩ := ixN_seq hj
  have hl := r.length
  have hn := line63
  have I' : Inv X pins σ (upd H p (.lst (xs.set j v))) { s with heap := s.heap.update p (Obj.mapSeq (·.setIfInBounds j u)) } :=
    I.lstUpd hp ho (mapSeq_set its n j u) (r.set rv j) (by rw [List.length_set]; exact hz) s.toks
  by_cases h0 : 0 ≤ k
  · have hk : k.toNat = j := by
      rw [seqIndex_of h0 h4] at h1
      exact Option.some.inj h1
    exact PySem.W.ki_setAt ho h0 (by omega) (by rw [List.size_toArray, ← hl]; exact h4) (by rw [hk]; exact ⟨_, I', q⟩)
  · have hk : (k + (its.toArray.size : Int)).toNat = j := by
      rw [seqIndex_neg (by omega) h3] at h1
      rw [List.size_toArray, ← hl]
      exact Option.some.inj h1
    exact PySem.W.ki_setBack ho (by omega) (by rw [List.size_toArray, ← hl]; exact h3) (by omega) (by rw [hk]; exact ⟨_, I', q⟩)
def flatV : V → Bool
  | .non => true
  | .bl _ => true
  | .int _ => true
  | .str _ => true
  | _ => false
def eqV : V → V → Bool
  | .non, .non => true
  | .bl a, .bl b => a == b
  | .bl a, .int b => (if a then 1 else 0) == b
  | .int a, .bl b => a == (if b then 1 else 0)
  | .int a, .int b => a == b
  | .str a, .str b => a == b
  | _, _ => false
theorem eqAt_V {A : Around} {s : Shared} {y x : V} {u v : Value} (ry : RelV y u) (rx : RelV x v) (fy : flatV y = true) (fx : flatV x = true) : SeqAt.EqAt A s u v (eqV y x) := by
  cases y with
  | non =>
    cases ry
    cases x with
    | non => cases rx; exact SeqAt.EqAt.same _
    | bl b => cases rx; exact SeqAt.EqAt.none_bool b
    | int b => obtain ⟨t, rfl⟩ := rx; exact SeqAt.EqAt.none_int b t
    | str b => obtain ⟨t, rfl⟩ := rx; exact SeqAt.EqAt.none_str b t
    | _ => exact absurd (show false = true from fx) Bool.false_ne_true
  | bl a =>
    cases ry
    cases x with
    | non => cases rx; exact SeqAt.EqAt.bool_none a
    | bl b => cases rx; exact SeqAt.EqAt.bool_bool a b
    | int b => obtain ⟨t, rfl⟩ := rx; exact SeqAt.EqAt.bool_int a b t
    | str b => obtain ⟨t, rfl⟩ := rx; exact SeqAt.EqAt.bool_str a b t
    | _ => exact absurd (show false = true from fx) Bool.false_ne_true
  | int a =>
    obtain ⟨t', rfl⟩ := ry
    cases x with
    | non => cases rx; exact SeqAt.EqAt.int_none a t'
    | bl b => cases rx; exact SeqAt.EqAt.int_bool a t' b
    | int b => obtain ⟨t, rfl⟩ := rx; exact SeqAt.EqAt.int_int a t' b t
    | str b => obtain ⟨t, rfl⟩ := rx; exact SeqAt.EqAt.int_str a t' b t
    | _ => exact absurd (show false = true from fx) Bool.false_ne_true
  | str a =>
    obtain ⟨t', rfl⟩ := ry
    cases x with
    | non => cases rx; exact SeqAt.EqAt.str_none a t'
    | bl b => cases rx; exact SeqAt.EqAt.str_bool a t' b
    | int b => obtain ⟨t, rfl⟩ := rx; exact SeqAt.EqAt.str_int a t' b t
    | str b => obtain ⟨t, rfl⟩ := rx; exact SeqAt.EqAt.str_str a t' b t
    | _ => exact absurd (show false = true from fx) Bool.false_ne_true
  | _ => exact absurd (show false = true from fy) Bool.false_ne_true
def eqU (x : V) (u : Value) : Bool := match u with
  | .none => eqV .non x
  | .bool b => eqV (.bl b) x
  | .int i _ => eqV (.int i) x
  | .str z _ => eqV (.str z) x
  | _ => false
theorem eqU_of {x y : V} {u : Value} (r : RelV y u) (f : flatV y = true) : eqU x u = eqV y x := by
  cases y with
  | non => cases r; rfl
  | bl b => cases r; rfl
  | int i => obtain ⟨t, rfl⟩ := r; rfl
  | str z => obtain ⟨t, rfl⟩ := r; rfl
  | _ => exact absurd (show false = true from f) Bool.false_ne_true
theorem any_eqU {x : V} : ∀ {xs : List V} {us : List Value}, Vals xs us → xs.all flatV = true → us.any (eqU x) = xs.any fun y => eqV y x
  | _, _, .nil, _ => rfl
  | y :: xs, u :: us, .cons r t, f => by
    rw [List.all_cons, Bool.and_eq_true] at f
    rw [List.any_cons, List.any_cons, eqU_of r f.1, any_eqU t f.2]
theorem mem_eqAt {A : Around} {s : Shared} {x : V} {v : Value} (rx : RelV x v) (fx : flatV x = true) : ∀ {xs : List V} {us : List Value}, Vals xs us → xs.all flatV = true → ∀ u ∈ us, SeqAt.EqAt A s u v (eqU x u)
  | _, _, .nil, _ => fun u hu => by cases hu
  | y :: xs, u :: us, .cons r t, f => fun u' hu => by
    rw [List.all_cons, Bool.and_eq_true] at f
    rcases List.mem_cons.mp hu with rfl | hu
    · rw [eqU_of r f.1]; exact eqAt_V r rx f.1 fx
    · exact mem_eqAt rx fx t f.2 u' hu
def inV (x : V) (xs : List V) : Bool := xs.any fun y => eqV y x
def rIn (K : PySem.W.Frag) (neg : Bool) : R2 := fun x y H Q => ∃ p xs, y = .ref p ∧ (SqL K H p xs ∨ SqT K H p xs) ∧ flatV x = true ∧ xs.all flatV = true ∧ Q (.bl (if neg then !inV x xs else inV x xs)) H
theorem op_in_seq : OpR X (compareOp .In) (rIn X.K false) := by
  intro pins s σ H x y v u Q I rx ry h
  obtain ⟨p, xs, rfl, hq, fx, fs, q⟩ := h
  cases ry
  rcases hq with hq | hq
  · obtain ⟨its, r, pl, hz⟩ := I.list hq
    refine SeqAt.in_listAt (eqU x) pl.isList (fun w hw => mem_eqAt rx fx r fs w (by simpa using hw)) ⟨.bl _, H, I, rfl, ?_⟩
    rw [show its.toArray.any (eqU x) = its.any (eqU x) by simp, any_eqU r fs]
    exact q
  · obtain ⟨its, r, pl, hz⟩ := I.tuple hq
    refine SeqAt.in_tupleAt (eqU x) pl (fun w hw => mem_eqAt rx fx r fs w (by simpa using hw)) ⟨.bl _, H, I, rfl, ?_⟩
    rw [show its.toArray.any (eqU x) = its.any (eqU x) by simp, any_eqU r fs]
    exact q
theorem call_len_seq : CallR X (.builtin "len") (fun xs H Q => ∃ p ys, xs = [.ref p] ∧ (SqL X.K H p ys ∨ SqT X.K H p ys) ∧ Q (.int ys.length) H) := by
  intro pins s σ H xs us Q I r h
  obtain ⟨p, ys, rfl, hq, q⟩ := h
  obtain ⟨u, rfl, rx⟩ := vals1 r
  cases rx
  have hn := line63
  rcases hq with hq | hq
  · obtain ⟨its, r', pl, hz⟩ := I.list hq
    have hlen := r'.length
    exact Calls.call_len_list pl.isList (by simp only [List.size_toArray] <;> omega) ⟨.int ys.length, H, I.tok _, ⟨s.toks + 1, by rw [List.size_toArray, hlen]⟩, q⟩
  · obtain ⟨its, r', pl, hz⟩ := I.tuple hq
    have hlen := r'.length
    exact len_tuple pl (by simp only [List.size_toArray] <;> omega) ⟨.int ys.length, H, I.tok _, ⟨s.toks + 1, by rw [List.size_toArray, hlen]⟩, q⟩
theorem CallR.or {f : Value} {r r' : List V → Hp → VK → Prop} (h : CallR X f r) (h' : CallR X f r') : CallR X f (fun xs H Q => r xs H Q ∨ r' xs H Q) := by
  intro pins s σ H xs us Q I rs q
  rcases q with q | q
  · exact h pins s σ H xs us Q I rs q
  · exact h' pins s σ H xs us Q I rs q
theorem call_tuple_of : CallR X (.type "tuple") (fun xs H Q => ∃ p ys, xs = [.ref p] ∧ ((SqL X.K H p ys ∧ ∀ l, H l = none → Q (.ref l) (upd H l (.tup ys))) ∨ (SqT X.K H p ys ∧ Q (.ref p) H))) := by
  intro pins s σ H xs us Q I r h
  obtain ⟨p, ys, rfl, h⟩ := h
  obtain ⟨u, rfl, rx⟩ := vals1 r
  cases rx
  rcases h with ⟨hq, q⟩ | ⟨hq, q⟩
  · obtain ⟨its, r', pl, hz⟩ := I.list hq
    have hlen := r'.length
    refine call_tuple_list pl.isList (fun h' kp => ?_) (by simp only [List.size_toArray] <;> omega)
    have I1 : Inv X pins σ H { s with heap := h' } := I.kept (t' := s.toks) kp
    have I2 : Inv X pins σ (upd H h'.objs.size (.tup ys)) { s with heap := h'.push { cls := .type "tuple", data := .seq its.toArray } } :=
      I1.laid (t' := s.toks) (fun b o e => Heap.get?_push_of_some _ e) (Nat.le_refl _) (show ObjOk X.prog X.w _ _ _ (.tup ys) from ⟨hz, its, r', IsTup.new _ _⟩)
    exact ⟨.ref h'.objs.size, _, I2, rfl, q _ (I1.hok.fresh (Nat.le_refl _))⟩
  · obtain ⟨its, r', pl, hz⟩ := I.tuple hq
    exact call_tuple_same pl ⟨.ref p, H, I, rfl, q⟩
def tyV (K : PySem.W.Frag) (T : String) (x : V) (H : Hp) : Prop := match x with
  | .str _ => T = "str"
  | .int _ => T = "int"
  | .ref p => (T = "list" ∧ ∃ xs, SqL K H p xs) ∨ (T = "tuple" ∧ ∃ o, K.lookup p = some o ∧ o.cls = .type "tuple" ∧ o.dict = none) ∨
      (T = "dict" ∧ ((∃ kvs, H p = some (.dK kvs)) ∨ ∃ kvs, H p = some (.dT kvs))) ∨ (T = "set" ∧ ∃ S n, H p = some (.set S n))
  | _ => False
theorem tyV_is {pins : List (Addr × Obj)} {σ : St} {H : Hp} {s : Shared} {T : String} {x : V} {v : Value} (I : Inv X pins σ H s) (r : RelV x v) (ty : tyV X.K T x H) :
    s.TypeIs v T ∧ ∀ a, v = .ref a → ∃ ob, s.heap.get? a = some ob ∧ ob.dict = none := by
  cases x with
  | str z =>
    obtain ⟨t, rfl⟩ := r
    cases (show T = "str" from ty)
    exact ⟨typeIs_str s z t, fun _ e => nomatch e⟩
  | int i =>
    obtain ⟨t, rfl⟩ := r
    cases (show T = "int" from ty)
    exact ⟨typeIs_int s i t, fun _ e => nomatch e⟩
  | ref p =>
    cases r
    rcases ty with ⟨rfl, xs, hq⟩ | ⟨rfl, o, hk, hc, hd⟩ | ⟨rfl, hk⟩ | ⟨rfl, S, n, hk⟩
    · obtain ⟨its, _, pl, _⟩ := I.list hq
      refine ⟨pl.isList.typeIs, fun a e => ?_⟩
      cases e
      obtain ⟨o, n, e, c, hd, _⟩ := pl
      exact ⟨o, e, hd⟩
    · refine ⟨⟨o, I.kIn p o hk, hc⟩, fun a e => ?_⟩
      cases e
      exact ⟨o, I.kIn _ o hk, hd⟩
    · have z : ∃ o, s.heap.get? p = some o ∧ o.ExactDict := by
        rcases hk with ⟨kvs, hk⟩ | ⟨kvs, hk⟩
        · obtain ⟨_, _, _, _, o, _, _, e, ex, _⟩ := I.hok p _ hk
          exact ⟨o, e, ex⟩
        · obtain ⟨_, _, _, _, o, _, _, e, ex, _⟩ := I.hok p _ hk
          exact ⟨o, e, ex⟩
      obtain ⟨o, e, ex⟩ := z
      refine ⟨⟨o, e, ex.1⟩, fun a e2 => ?_⟩
      cases e2
      exact ⟨o, e, ex.2.1⟩
    · obtain ⟨o, _, _, _, e, ex, _⟩ := I.hok p _ hk
      refine ⟨⟨o, e, ex.1⟩, fun a e2 => ?_⟩
      cases e2
      exact ⟨o, e, ex.2.1⟩
  | _ => exact False.elim ty
def tBM (K : PySem.W.Frag) (T : String) (r : V → List V → Hp → VK → Prop) (to : TE) (t : TA) : TE := fun σ H Q => to σ H fun x H1 => tyV K T x H1 ∧ t σ H1 fun xs H2 => r x xs H2 Q
variable {o e : Expr} {es : List Expr} {to : TE} {t : TA} {name : Str} {apos cpos : Pos} {T id : String} {r : V → List V → Hp → VK → Prop}
theorem pe_bm (pa : PlainAttrs T) (slot : Slot T name id) (hty : typeOf (.builtin id) = pure (.type "method_descriptor")) (hm : MtR X id r) (ho : PE X o to) (ha : PA X (e :: es) t)
    (hbase : attributeBase o name X.env (eval o X.env) = eval o X.env := by rfl)
    (hfew : ((backTo cpos (starEach (e :: es) X.env)).all (fun x => !x.1) && (backToKw cpos (keywordEach [] X.env)).all (fun x => x.1.isSome)
      && decide ((e :: es).length + ([] : List Keyword).length + (if ([] : List Keyword).isEmpty then 0 else 1) < 30)) = true := by rfl)
    (hline : (apos.endLine == cpos.line) = true := by rfl) (hs : starEach (e :: es) X.env = (false, eval e X.env) :: starEach es X.env := by rfl) (hplain : (backTo cpos (starEach es X.env)).any (·.1) = false := by rfl) :
    PE X (.Call (.Attribute o name apos) (e :: es) [] cpos) (tBM X.K T r to t) := by
  intro pins s σ H Q I h
  refine wpAny_Call_method_late hbase hfew hline rfl (thn (ho pins s σ H _ I h) fun v s1 ⟨x, H1, I1, r1, ty, q1⟩ => ?_)
  obtain ⟨h1, h2⟩ := tyV_is I1 r1 ty
  refine ⟨T, id, pa, slot, hty, h1, h2, ?_⟩
  have hA := ha cpos pins s1 σ H1 _ I1 q1
  rw [hs] at hA ⊢
  refine Calls.callWith_builtin (by show (false || (backTo cpos (starEach es X.env)).any (·.1)) = false; rw [hplain] <;> rfl) (Calls.evalArgs_plain ?_)
  exact thn hA fun us s2 ⟨vs, H2, I2, r2, q2⟩ => hm pins s2 σ H2 x vs v us Q I2 r1 r2 q2
/- xs.append(e), list.index on a module's tuple .. are MtR facts of 06m -/
end
end L2
namespace L2
open PySem PySem.Spec PyProof.Rows
def MtM (X : Cx) (id : String) (r : V → List V → Hp → VK → Prop) : Prop :=
  ∀ (pins : List (Addr × Obj)) (s : Shared) (σ : St) (H : Hp) (x : V) (xs : List V) (v : Value) (us : List Value) (Q : VK), Inv X pins σ H s → RelV x v → Vals xs us → r x xs H Q →
    wpAny (model X.prog X.w) X.A (call (.builtin id) (v :: us)) (EP X pins σ Q) X.xe s
theorem Vals.one : ∀ {x : V} {us : List Value}, Vals [x] us → ∃ u, us = [u] ∧ RelV x u
  | _, _, .cons r .nil => ⟨_, rfl, r⟩
theorem Vals.two : ∀ {x y : V} {us : List Value}, Vals [x, y] us → ∃ u v, us = [u, v] ∧ RelV x u ∧ RelV y v
  | _, _, _, .cons r (.cons q .nil) => ⟨_, _, rfl, r, q⟩
theorem Vals.zero : ∀ {us : List Value}, Vals [] us → us = []
  | _, .nil => rfl
theorem Vals.dropLast {xs : List V} {us : List Value} (h : Vals xs us) : Vals xs.dropLast us.dropLast := by
  induction h with
  | nil => exact .nil
  | cons r t ih =>
    cases t with
    | nil => exact .nil
    | cons q t' => exact .cons r ih
theorem Vals.reverse {xs : List V} {us : List Value} (h : Vals xs us) : Vals xs.reverse us.reverse := by
  induction h with
  | nil => exact .nil
  | cons r t ih => rw [List.reverse_cons, List.reverse_cons]; exact Vals.append ih (.cons r .nil)
theorem Vals.rep {xs : List V} {us : List Value} (h : Vals xs us) : ∀ k : Nat, Vals (List.replicate k xs).flatten (List.replicate k us).flatten
  | 0 => .nil
  | k + 1 => by
    rw [List.replicate_succ, List.replicate_succ, List.flatten_cons, List.flatten_cons]
    exact Vals.append h (Vals.rep h k)
theorem foldl_rep (its : List Value) : ∀ (k : Nat) (acc : List Value),
    List.foldl (fun x1 x2 => x1 ++ x2) acc.toArray (List.replicate k its.toArray) = (acc ++ (List.replicate k its).flatten).toArray
  | 0, acc => by simp
  | k + 1, acc => by
    have e : acc.toArray ++ its.toArray = (acc ++ its).toArray := by simp
    have e2 : (acc ++ its) ++ (List.replicate k its).flatten = acc ++ (List.replicate (k + 1) its).flatten := by
      rw [List.replicate_succ, List.flatten_cons, List.append_assoc]
    rw [← e2, ← foldl_rep its k (acc ++ its), ← e, List.replicate_succ, List.foldl_cons]
section
variable {X : Cx} {pins : List (Addr × Obj)} {σ : St} {H : Hp} {s : Shared} {l b : Addr} {xs ys zs : List V}
theorem Inv.lset {its its' : List Value} {n : Nat} {f : Array Value → Array Value} {t' : Nat} (I : Inv X pins σ H s) (hH : H l = some (.lst xs))
    (e : s.heap.get? l = some { cls := .type "list", data := .seq its.toArray n }) (hf : f its.toArray = its'.toArray) (hv : Vals ys its') (hz : ys.length ≤ sizeLine) :
    Inv X pins σ (upd H l (.lst ys)) { s with heap := s.heap.update l (Obj.mapSeq f), toks := t' } := by
  have q := PySem.IsL.update e f
  rw [hf] at q
  refine I.write (x := l) (e := l) (by rw [hH]; exact trivial) (.inl rfl) (fun b' u hb hu => (Heap.get?_update_other s.heap (Obj.mapSeq f) (Ne.symm hb)).trans hu) ⟨_, q⟩ ?_
  exact ⟨hz, its', _, hv, q⟩
theorem Inv.lnew {its : List Value} {t' : Nat} (I : Inv X pins σ H s) (hv : Vals ys its) (hz : ys.length ≤ sizeLine) :
    Inv X pins σ (upd H s.heap.objs.size (.lst ys)) { s with heap := s.heap.push { cls := .type "list", data := .seq its.toArray }, toks := t' } :=
  I.laid (fun _ _ q => Heap.get?_push_of_some _ q) (Nat.le_refl _) ⟨hz, its, 0, hv, Heap.get?_push_size _ rfl⟩
theorem Inv.fresh (I : Inv X pins σ H s) : H s.heap.objs.size = none := I.hok.fresh (Nat.le_refl _)
theorem Inv.lstM (I : Inv X pins σ H s) (hH : H l = some (.lst xs)) : xs.length ≤ sizeLine ∧ ∃ (its : List Value) (n : Nat), Vals xs its ∧ xs.length = its.length ∧ s.heap.get? l = some { cls := .type "list", data := .seq its.toArray n } := by
  obtain ⟨z, its, n, r, e⟩ := I.hok l _ hH
  exact ⟨z, its, n, r, r.length, e⟩
theorem notLongL {n : Nat} (h : n ≤ sizeLine) : Builtin.List.listTooLong n = false := by
  unfold Builtin.List.listTooLong
  exact decide_eq_false (by omega)
end
section
variable {X : Cx}
def rAppend : V → List V → Hp → VK → Prop := fun x vs H Q => ∃ l xs y, x = .ref l ∧ vs = [y] ∧ H l = some (.lst xs) ∧ xs.length < sizeLine ∧ Q .non (upd H l (.lst (xs ++ [y])))
theorem mt_append : MtM X "list.append" rAppend := by
  intro pins s σ H x vs v us Q I rx rv h
  obtain ⟨l, xs, y, rfl, rfl, hH, hz, q⟩ := h
  cases rx
  obtain ⟨u, rfl, ru⟩ := rv.one
  obtain ⟨z, its, n, r, hl, e⟩ := I.lstM hH
  refine call_meets F.slot_list_append ⟨_, e, rfl⟩ F.entry_list_append (F.args_list_append_2 _ _) (PySem.list_append l its.toArray n u (by rw [List.size_toArray]; omega)) ⟨e, ?_⟩
  refine ⟨.non, _, I.lset (its' := its ++ [u]) hH e (by simp) (r.append (.cons ru .nil)) ?_, rfl, q⟩
  rw [List.length_append, List.length_singleton]
  omega
def rCat : R2 := fun x y H Q => ∃ l b xs zs, x = .ref l ∧ y = .ref b ∧ H l = some (.lst xs) ∧ H b = some (.lst zs) ∧ xs.length + zs.length ≤ sizeLine ∧ ∀ p, H p = none → Q (.ref p) (upd H p (.lst (xs ++ zs)))
theorem op_cat : OpR X (binaryOp .Add) rCat := by
  intro pins s σ H x y v u Q I rx ry h
  obtain ⟨l, b, xs, zs, rfl, rfl, hH, hB, hz, q⟩ := h
  cases rx
  cases ry
  obtain ⟨z, its, n, r, hl, e⟩ := I.lstM hH
  obtain ⟨z2, its2, n2, r2, hl2, e2⟩ := I.lstM hB
  refine PySem.P.add_list e e2 ?_ (by rw [List.size_toArray, List.size_toArray]; omega)
  have ea : its.toArray ++ its2.toArray = (its ++ its2).toArray := by simp
  rw [ea]
  exact ⟨.ref _, _, I.lnew (t' := s.toks) (r.append r2) (by rw [List.length_append]; omega), rfl, q _ I.fresh⟩
def rRep : R2 := fun x y H Q => ∃ l k xs, x = .ref l ∧ y = .int k ∧ H l = some (.lst xs) ∧ -(2 ^ 63) ≤ k ∧ k < 2 ^ 63 ∧ xs.length * k.toNat ≤ sizeLine ∧
  ∀ p, H p = none → Q (.ref p) (upd H p (.lst (List.replicate k.toNat xs).flatten))
theorem len_rep {α : Type} (xs : List α) (k : Nat) : (List.replicate k xs).flatten.length = k * xs.length := by
  induction k with
  | zero => simp
  | succ k ih => rw [List.replicate_succ, List.flatten_cons, List.length_append, ih, Nat.succ_mul, Nat.add_comm]
theorem op_rep : OpR X (binaryOp .Mult) rRep := by
  intro pins s σ H x y v u Q I rx ry h
  obtain ⟨l, k, xs, rfl, rfl, hH, h1, h2, hz, q⟩ := h
  cases rx
  obtain ⟨t, rfl⟩ := ry
  obtain ⟨z, its, n, r, hl, e⟩ := I.lstM hH
  have hlen : its.toArray.size * k.toNat ≤ sizeLine := by rw [List.size_toArray, ← hl]; exact hz
  have hcap : ¬ its.toArray.size * k.toNat > (2 ^ 63 - 1) / 8 := by
    have : (sizeLine : Nat) ≤ (2 ^ 63 - 1) / 8 := by decide
    omega
  have hfit : ¬ (!Builtin.List.listFitsIndex k) = true := by
    rw [fitsIndex_both h1 h2]
    exact Bool.false_ne_true
  have hlong : ¬ Builtin.List.listTooLong (its.toArray.size * k.toNat) = true := by
    rw [notLongL hlen]
    exact Bool.false_ne_true
  have hnew : List.foldl (fun x1 x2 => x1 ++ x2) #[] (List.replicate (if its.toArray.isEmpty = true then 0 else k.toNat) its.toArray) = (List.replicate k.toNat its).flatten.toArray := by
    have f0 : ∀ m : Nat, List.foldl (fun x1 x2 => x1 ++ x2) #[] (List.replicate m its.toArray) = (List.replicate m its).flatten.toArray := fun m => by
      have := foldl_rep its m []
      rw [List.nil_append] at this
      exact this
    rw [f0]
    cases its with
    | nil => simp
    | cons a r' => rw [if_neg (by simp)]
  refine wpAny_binaryOp_repeat_ref (T := "list") (U := "int") (by decide) ⟨_, e, rfl⟩ (fun s' => typeIs_int s' k t) noFill_list_mul F.fills_int_mul F.slot_int_rmul repeat_list F.slot_int_index.lookup
    (call_meets F.slot_int_rmul (typeIs_int s k t) F.entry_int_rmul (F.args_int_rmul_2 _ _) (int___rmul___int_list k t l its.toArray n)
      ⟨e, rfl, ⟨_, e, rfl⟩, call_meets F.slot_list_mul ⟨_, e, rfl⟩ F.entry_list_mul (F.args_list_mul_2 _ _) (AutoListH.list___mul___list_int_3 l its.toArray n k t hfit hcap hlong) ⟨e, ?_⟩⟩)
  rw [hnew]
  exact ⟨.ref _, _, I.lnew (t' := s.toks) (r.rep k.toNat) (by rw [len_rep, Nat.mul_comm]; exact hz), rfl, q _ I.fresh⟩
end
section
variable {prog : Program} {w : World} {A : Around} {E : Value → Shared → Prop} {s : Shared}
set_option maxRecDepth 100000 in
end
section
variable {X : Cx}
end
end L2
namespace Att
open PySem PySem.W PySem.Calls PyProof.Rows
theorem ints_of_wellAll {P : Params} {h : Heap} : ∀ (ns : List Int) (vs : List Value), WellAll P h vs (ns.map WData.int) → IntsAre vs ns := by
  intro ns
  induction ns with
  | nil =>
    intro vs w
    rw [List.map_nil] at w
    cases w
    exact .nil
  | cons n ns ih =>
    intro vs w
    rw [List.map_cons] at w
    cases w with
    | cons a b =>
      cases a
      exact .cons _ _ (ih _ b)
theorem script_of {l : OpenLaw} {n : Nat} (hn : l.most = some n) {P : Params} {h : Heap} {args : List WData} {vals : List Value}
    (hpre : l.row.toRowW.claim.pre args = true) (hwl : WellAll P h vals args) :
    ∃ a vs ns, vals = [Value.ref a] ∧ args = [WData.list (ns.map WData.int)] ∧ h.get? a = some { cls := .type "list", data := .seq vs.toArray } ∧ IntsAre vs ns ∧ ns.length ≤ n := by
  have hsh : WShape.hasAll [] args [.list .int] = true := (pre_splitW hpre).1
  have hc : l.pre.holds [] { args := args } = true := (pre_splitW hpre).2
  obtain ⟨d, r, rfl, h1, h2⟩ := hasAllW_cons hsh
  obtain rfl := hasAllW_nil h2
  obtain ⟨xs, rfl, h3⟩ := hasW_list h1
  obtain ⟨ns, rfl⟩ := items_int h3
  have hlen : ns.length ≤ n := by
    unfold OpenLaw.pre at hc
    have h4 : (WTm.not (.lt (.lit (.int (n : Int))) (.len (.arg 0)))).holds [] { args := [.list (ns.map .int)] } = true := by
      have h4 := (holds_andW hc).1
      rw [hn] at h4
      exact h4
    have h5 := condW_of h4 (w_not (w_lt w_lit (w_len_list (w_arg rfl))))
    rw [List.length_map] at h5
    refine Nat.le_of_not_lt fun q => ?_
    have q' : (n : Int) < ((ns.length : Nat) : Int) := by omega
    first
      | (rw [decide_eq_true q'] at h5; exact absurd h5 (by decide))
      | (simp at h5; omega)
  cases hwl with
  | cons w1 w2 =>
    cases w2
    cases w1 with
    | list ho hall => exact ⟨_, _, ns, rfl, rfl, ho, ints_of_wellAll ns _ hall, hlen⟩
theorem post_true (l : OpenLaw) (args : List WData) : l.row.toRowW.claim.post args (.bool true) args = true :=
  postW_of (r := l.row.toRowW) (X := (true == true))
    (show WShape.has [] (.bool true) .bool = true by first | rfl | decide | simp [WShape.has, WShape.arms, WShape.armsAll])
    (show (WTm.eq .res (.lit (.bool true))).value [] { args := args, res := some (.bool true), after := args } = some (.bool (true == true)) from w_eq_bool (w_res rfl) w_lit) rfl
theorem attach_call {l : OpenLaw} {n : Nat} {q : Program} {loose : List Str} {XP : (Str → Option Value) → Heap → Prop} {YP : World → Heap → Prop} {d : DefRec}
    (hn : l.most = some n) (hdf : d.params.defaults = [])
    (call : ∀ (w : World) (s₀ s₁ : Shared) (mg mb : Str → Option Value) (fa : Addr) (o : Obj) (pm cd doc : Value) (a : Addr) (vs : List Value) (ns : List Int),
      Ground q loose [] XP w s₀ mg mb s₁.heap → YP w s₁.heap →
      s₁.heap.get? fa = some o → o.data = .func (docDef d.name d.params d.body d.scope pm cd doc) → s₁.heap.CodeRec cd d.name → mg d.name = some (.ref fa) →
      s₁.heap.get? a = some { cls := .type "list", data := .seq vs.toArray } → IntsAre vs ns → ns.length ≤ n → s₁.gens = #[] →
      codeAny (model l.prog w) callerA (.call (.ref fa) ⟨[.ref a], []⟩) (fun r s' => r = .ok (.ret (.bool true)) ∧ OldK s₁.heap s'.heap ∧ s'.os = s₁.os ∧ AllBare s'.gens) s₁) :
    WalkO q loose XP YP l.row.toRowW d [] (fun f vs => PySem.call f vs) := by
  intro w s₀ s₁ mg mb G Y fa o pm cd doc dV kV ho hd hcd hD hmg hg args vals as hpre hlay hrd hwl hlo
  obtain rfl : dV = .none := Dflts.none hD hdf
  obtain rfl : kV = .none := Dflts.noKw hD
  obtain ⟨a, vs, ns, rfl, rfl, hobj, hints, hlen⟩ := script_of hn hpre hwl
  refine enter_call (codeAny_mono (call w s₀ s₁ mg mb fa o pm cd doc a vs ns G Y ho (fd_plain hd) hcd hmg hobj hints hlen hg) fun r s' hq => ?_)
  obtain ⟨rfl, h2, h3, h4⟩ := hq
  exact ⟨.inl ⟨.bool true, .bool true, [], rfl, fun _ => rfl, .bool true, post_true l _, fun _ => ⟨List.Pairwise.nil, fun _ hm => (nomatch hm)⟩⟩, h2, h3, h4⟩
section
variable {prog : Program} {w : World} {A : Around} {E : Value → Shared → Prop} {s : Shared} {K : Frag}
def ledger (h : Heap) (L d : Addr) : List (Addr × Obj) := (List.range h.objs.size).filterMap fun a => if a = L ∨ a = d then none else (h.get? a).map fun o => (a, o)
end
end Att
namespace L2
open PySem PySem.Spec PyProof.Rows
theorem vals_ints : ∀ {vs : List Value} {ns : List Int}, IntsAre vs ns → Vals (ns.map V.int) vs
  | _, _, .nil => .nil
  | _, _, .cons n t h => .cons ⟨t, rfl⟩ (vals_ints h)
def Only (H : Hp) : Prop := ∀ b, H b = none ∨ ∃ o xs, H b = some (.frz o (.lst xs))
theorem law_call {P : Program} {w : World} {K : PySem.W.Frag} {mg mb : Str → Option Value} {CX : CXT} {k : Nat} {fa a : Addr} {fd : FuncData} {x : Str} {sp : Sp} {s₁ : Shared} {vs : List Value} {ns : List Int}
    (KX : K.In s₁.heap) (hns : s₁.heap.Ns mainGlobals mg) (hb : s₁.heap.Ns builtinsNs mb) (hbb : ∀ x : Str, x ≠ "__name__" → mb x = bootBuiltins x) (hlim : s₁.heap.NoLimit) (hg : s₁.gens = #[])
    (ha : s₁.heap.get? a = some { cls := .type "list", data := .seq vs.toArray }) (hi : IntsAre vs ns) (hl : ns.length ≤ sizeLine) (hr : Room k callerA)
    (F : ∀ base : Heap, K.In base → base.Ns mainGlobals mg → FnOk P w K mg base CX k fa fd [x] sp) (hbind : ∀ (s : Shared) (u : Value), BindsTo s fd ⟨[u], []⟩ [(x, u)])
    (hsp : ∀ H : Hp, Only H → SqL K H a (ns.map V.int) → sp [.ref a] H (fun v _ => v = .bl true) fun _ _ _ => False)
    (hCX : ∀ H e s', CX [] H s₁ (fun _ _ _ => False) e s' → False) :
    codeAny (model P w) callerA (.call (.ref fa) ⟨[.ref a], []⟩) (fun r s' => r = .ok (.ret (.bool true)) ∧ OldK s₁.heap s'.heap ∧ s'.os = s₁.os ∧ AllBare s'.gens) s₁ := by
  have rv := vals_ints hi
  have lenV := hi.length
  -- from an abstract heap in which nothing but the script may be tracked
  have core : ∀ H : Hp, Only H → SqL K H a (ns.map V.int) → HOk P w H s₁.heap → (∀ b, H b ≠ none → b = a) → (H a ≠ none → K.lookup a = none) →
      codeAny (model P w) callerA (.call (.ref fa) ⟨[.ref a], []⟩) (fun r s' => r = .ok (.ret (.bool true)) ∧ OldK s₁.heap s'.heap ∧ s'.os = s₁.os ∧ AllBare s'.gens) s₁ := by
    intro H hO hS hok hA hK
    have base_of : ∀ {b : Addr} {o : Obj}, s₁.heap.get? b = some o → H b = none → (hidT s₁.heap H).get? b = some o := fun e n => hidT_get e n
    have noA : ∀ {b : Addr} {o : Obj} {es : Array DictEntry} {ep : Nat}, s₁.heap.get? b = some o → o.data = .dict es ep → H b = none := fun {b o es ep} e d => by
      cases q : H b with
      | none => rfl
      | some u =>
        have e' : b = a := hA b (by rw [q]; simp)
        subst e'
        rw [ha] at e; cases e
        have d' : Data.seq vs.toArray _ = Data.dict es ep := d
        cases d'
    have nsK : ∀ {b : Addr} {m : Str → Option Value}, s₁.heap.Ns b m → (hidT s₁.heap H).Ns b m := fun {b m} ⟨o, es, ep, e, d, r⟩ => ⟨o, es, ep, base_of e (noA e d), d, r⟩
    have hKb : K.In (hidT s₁.heap H) := fun b o e => base_of (KX b o e) (by
      cases q : H b with
      | none => rfl
      | some u =>
        have e' : b = a := hA b (by rw [q]; simp)
        subst e'
        rw [hK (by rw [q]; simp)] at e; cases e)
    have hM : Mod K mg (hidT s₁.heap H) := ⟨hKb, nsK hns, ⟨mb, nsK hb, hbb⟩, let ⟨mc, h1, h2⟩ := hlim; ⟨mc, nsK h1, h2⟩⟩
    have e0 : Env0 P w K mg (hidT s₁.heap H) callerA [] s₁ H := ⟨rfl, hM, fun b o e => of_hidT e, Nat.le_of_eq (hidT_size _ _), trivial, fun b hb => absurd (show b ∈ ([] : List Addr) from hb) (by simp), hok, .of_eq hg⟩
    refine codeAny_mono ((F _ hKb (nsK hns)).run callerA [] s₁ H ⟨[.ref a], []⟩ [.ref a] [.ref a] _ _ hr e0 (hbind s₁ (.ref a)) (.cons rfl .nil) (hsp H hO hS)) fun r s' h => ?_
    cases r with
    | error e => exact (hCX H e s' h).elim
    | ok fl =>
      cases fl with
      | next => exact False.elim h
      | brk => exact False.elim h
      | cont => exact False.elim h
      | ret u =>
        obtain ⟨v, H', os, bare, un, hok', r', q⟩ := h
        have q' : v = .bl true := q
        subst q'
        obtain rfl : u = Value.bool true := r'
        refine ⟨rfl, OldK.of_keep fun b o e => ?_, os, bare⟩
        cases q : H b with
        | none => exact un.keep b o e q (by intro z; exact absurd (show b ∈ ([] : List Addr) from z) (by simp)) (by simp)
        | some u =>
          rcases hO b with z | ⟨ob, xs, z⟩
          · rw [q] at z; cases z
          · have z2 := un.frzs b ob _ z
            obtain ⟨e1, _⟩ := hok b _ z
            obtain ⟨e2, _⟩ := hok' b _ z2
            rw [e] at e1; cases e1
            exact e2
  cases hk : K.lookup a with
  | some o =>
    -- the script is one of the module's own objects
    have e := KX a o hk
    rw [ha] at e
    cases e
    refine core (fun _ => none) (fun _ => .inl rfl) (.inr ⟨_, vs.toArray, _, hk, rfl, rfl, rfl, by rw [List.size_toArray, lenV]; exact hl, by simpa using rv⟩) (fun b u z => by have z' : (none : Option HO) = some u := z; cases z') (fun b z => absurd rfl z) fun z => absurd rfl z
  | none =>
    refine core (fun b => if b = a then some (.frz { cls := .type "list", data := .seq vs.toArray } (.lst (ns.map V.int))) else none) (fun b => ?_) (.inl (.inr ⟨{ cls := .type "list", data := .seq vs.toArray }, if_pos rfl⟩)) (fun b u z => ?_) (fun b z => ?_) fun _ => hk
    · by_cases hb : b = a
      · exact .inr ⟨_, _, if_pos hb⟩
      · exact .inl (if_neg hb)
    · by_cases hb : b = a
      · have z' := (if_pos hb).symm.trans z
        cases z'
        subst hb
        exact ⟨ha, by rw [List.length_map]; exact hl, vs, _, rv, ha⟩
      · have z' := (if_neg hb).symm.trans z
        cases z'
    · by_cases hb : b = a
      · exact hb
      · exact absurd (if_neg hb) z
end L2
namespace L2
open PySem PySem.Spec PyProof.Rows
theorem walk_of {l : PySem.W.OpenLaw} {n k : Nat} {q : Program} {loose : List Str} {XP : (Str → Option Value) → Heap → Prop} {YP : World → Heap → Prop} {d : DefRec} {K : Params → PySem.W.Frag} {CX : World → CXT} {sp : World → Sp} {x : Str}
    (hn : l.most = some n) (hn2 : n ≤ sizeLine) (hdf : d.params.defaults = []) (hr : Room k callerA)
    (hY : ∀ (w : World) (h : Heap), YP w h → (K w.params).In h)
    (F : ∀ (w : World) (mg : Str → Option Value) (fa : Addr) (h : Heap), (K w.params).In h → h.Ns mainGlobals mg → mg d.name = some (.ref fa) →
      ∃ fd : FuncData, (∀ (s : Shared) (u : Value), BindsTo s fd ⟨[u], []⟩ [(x, u)]) ∧
        ∀ base : Heap, (K w.params).In base → base.Ns mainGlobals mg → FnOk l.prog w (K w.params) mg base (CX w) k fa fd [x] (sp w))
    (hsp : ∀ (w : World) (H : Hp) (a : Addr) (ns : List Int), ns.length ≤ n → Only H → SqL (K w.params) H a (ns.map V.int) → sp w [.ref a] H (fun v _ => v = .bl true) fun _ _ _ => False)
    (hCX : ∀ (w : World) (H : Hp) (s : Shared) (e : Value) (s' : Shared), CX w [] H s (fun _ _ _ => False) e s' → False) :
    PySem.W.WalkO q loose XP YP l.row.toRowW d [] (fun f vs => PySem.call f vs) := by
  refine Att.attach_call hn hdf fun w s₀ s₁ mg mb fa o pm cd doc a vs ns G Y ho hd hcd hmg hobj hints hlen hg => ?_
  have KX := hY w _ Y
  obtain ⟨fd, hb, hF⟩ := F w mg fa _ KX G.T.g hmg
  exact law_call KX G.T.g G.T.b G.T.builtins G.T.nolimit hg hobj hints (Nat.le_trans hlen hn2) hr hF hb (fun H hO hS => hsp w H a ns hlen hO hS) fun H e s' => hCX w H s₁ e s'
end L2
namespace L2
open PySem PySem.Spec PyProof.Rows
def inClass (s : Stmt) (j : Nat) : Stmt := match s with
  | .ClassDef _ _ _ body _ _ _ _ _ _ _ => body.getD j (.Pass ⟨0, 0, 0, 0⟩)
  | _ => .Pass ⟨0, 0, 0, 0⟩
def defArgs (s : Stmt) : Arguments := match s with
  | .FunctionDef _ a _ _ _ _ _ _ _ _ => a
  | _ => { posonlyargs := [], args := [], vararg := none, kwonlyargs := [], kw_defaults := [], kwarg := none, defaults := [] }
def defBody (s : Stmt) : List Stmt := match s with
  | .FunctionDef _ _ b _ _ _ _ _ _ _ => b
  | _ => []
def defScope (s : Stmt) : Scope := match s with
  | .FunctionDef _ _ _ _ _ _ sc _ _ _ => sc
  | _ => { kind := .function, names := [], isGenerator := false, isCoroutine := false }
abbrev CX0 : CXT := fun _ _ _ _ _ _ => False
abbrev E0 : XK := fun _ _ _ => False
theorem pass0 {X : Cx} : Passes CX0 X E0 := fun _ _ _ _ _ _ _ h => h.elim
structure Fun (K : PySem.W.Frag) (x qual : Str) (st : Stmt) (f : Addr) (fd : FuncData) : Prop where
  ex : ∃ (oc : Value) (od : Option Addr) (kV doc pm : Value) (an : Option Addr) (cdv ct : Value) (osl : Array (Option Value)),
    fd = PySem.W.fnOf x qual (defArgs st) (defBody st) (defScope st) .none kV doc pm an cdv ct ∧ K.lookup f = some ⟨oc, od, .func fd, osl⟩ ∧ PySem.W.codeIn K cdv qual = true
  kp : PySem.W.keepIn K (.ref f) = true
section
variable {P : Program} {w : World} {K : PySem.W.Frag} {mg : Str → Option Value} {base : Heap}
theorem Fun.ok {x qual : Str} {st : Stmt} {f : Addr} {fd : FuncData} {N ps : List Str} {k : Nat} {sp : Sp} (F : Fun K x qual st f fd) (S : FnScope N ps (defScope st)) (len : ∀ vs H Q E, sp vs H Q E → vs.length = ps.length)
    (hbody : ∀ (cdv : Value) (A : Around) (outer : List Env) (s : Shared) (H : Hp) (vs : List V) (Q : VK) (E : XK), Room k (A.deeper (envOfC qual (defScope st) s.heap.objs.size f cdv)) → sp vs H Q E →
      ∃ t, PSs (cxOf CX0 P w K mg base N qual (defScope st) f cdv A outer s H E).nox (defBody st) t ∧ t { nx := fun _ H' => Q .non H', rt := Q } (start N vs) H) : FnOk P w K mg base CX0 (k + 1) f fd ps sp := by
  obtain ⟨oc, od, kV, doc, pm, an, cdv, ct, osl, rfl, lk, hcd⟩ := F.ex
  refine fn_of lk hcd S len fun A outer s H vs Q E hr hsp => ?_
  obtain ⟨t, h, q⟩ := hbody cdv A outer s H vs Q E hr hsp
  exact ⟨t, h.nox, q⟩
theorem Fun.binds {x qual : Str} {st : Stmt} {f : Addr} {fd : FuncData} {ps : List Str} (F : Fun K x qual st f fd)
    (h : ∀ (kV doc pm : Value) (an : Option Addr) (cdv ct : Value) (us : List Value), us.length = ps.length → bindArgs (PySem.W.fnOf x qual (defArgs st) (defBody st) (defScope st) .none kV doc pm an cdv ct) ⟨us, []⟩ = pure (ps.zip us)) : Binds K fd ps [] := by
  obtain ⟨oc, od, kV, doc, pm, an, cdv, ct, osl, rfl, lk, hcd⟩ := F.ex
  exact .all (h kV doc pm an cdv ct)
theorem fun_mk {x qual : Str} {st : Stmt} {f : Addr} {oc : Value} {od an : Option Addr} {osl : Array (Option Value)} {kV doc pm cdv ct : Value} (l : K.lookup f = some ⟨oc, od, .func (PySem.W.fnOf x qual (defArgs st) (defBody st) (defScope st) .none kV doc pm an cdv ct), osl⟩)
    (c : PySem.W.codeIn K cdv qual = true) (k : PySem.W.keepIn K (.ref f) = true) : Fun K x qual st f (PySem.W.fnOf x qual (defArgs st) (defBody st) (defScope st) .none kV doc pm an cdv ct) := ⟨⟨oc, od, kV, doc, pm, an, cdv, ct, osl, rfl, l, c⟩, k⟩
end
section
variable {X : Cx}
theorem pv (i : Nat) {x : Str} {pos : Pos} (hN : X.N[i]? = some x := by rfl) (hv : Vis X.env.scope x := by first | exact Or.inl rfl | exact Or.inr (Or.inl rfl) | exact Or.inr (Or.inr rfl)) (hd : (x == ("__debug__" : Str)) = false := by decide)
    (hcd : (x == ("__classdict__" : Str)) = false := by decide) : PE X (.Name x pos) (tVar i) := pe_var hN hv hd hcd
end
def Same (H H' : Hp) : Prop := ∀ b o, H b = some o → H' b = some o
theorem Same.refl (H : Hp) : Same H H := fun _ _ h => h
theorem Same.trans {H H1 H2 : Hp} (a : Same H H1) (b : Same H1 H2) : Same H H2 := fun c o h => b c o (a c o h)
theorem Same.free {H H' : Hp} (e : Same H H') {l : Addr} (h : H' l = Option.none) : H l = Option.none := by
  cases q : H l with
  | none => rfl
  | some o =>
    rw [e l o q] at h
    cases h
theorem Same.seq {K : PySem.W.Frag} {H H' : Hp} {a : Addr} {xs : List V} (e : Same H H') (h : SqL K H a xs) : SqL K H' a xs := by
  rcases h with (h | ⟨o, h⟩) | h
  · exact .inl (.inl (e _ _ h))
  · exact .inl (.inr ⟨o, e _ _ h⟩)
  · exact .inr h
end L2
set_option Elab.async false
set_option linter.all false
set_option maxRecDepth 100000
set_option maxHeartbeats 4000000
namespace L2
open PySem PySem.Spec PyProof.Rows
theorem loop_comp {prog : Program} {w : World} {A : Around} {R : Result → Shared → Prop} {s : Shared} {elt target iter : Expr} {ifs : List Expr} {scope : Scope} {pos : Pos} {it acc : Value} {env : Env} (I : Nat → Shared → Prop)
    (turn : ∀ n s, I n s → wpAny (model prog w) A (pyNext it) (fun r s₁ => match r with
      | none => R (.ok .next) s₁
      | some v => wpAny (model prog w) A (letOwnedTupleGo target it v) (fun _ s₁' => wpAny (model prog w) A (assign target env v) (fun _ s₂ =>
          wpAny (model prog w) A (forIn ifs true fun c r => if r = true then do let ok ← isTrue c env (eval c env); pure (ForInStep.yield ok) else pure (ForInStep.yield r)) (fun ok s₃ =>
            if ok = true then wpAny (model prog w) A (eval elt env) (fun x s₄ =>
              wpAny (model prog w) A (call (.builtin "list.append") [acc, x]) (fun _ s₅ => ∃ m, m < n ∧ I m s₅) (fun _ _ => False) s₄) (fun _ _ => False) s₃
            else ∃ m, m < n ∧ I m s₃) (fun _ _ => False) s₂) (fun _ _ => False) s₁') (fun _ _ => False) s₁) (fun _ _ => False) s)
    (n : Nat) (h : I n s) :
    codeAny (model prog w) A (.compLoop (.ListComp elt [⟨target, iter, ifs, 0⟩] scope pos) 0 it acc env) R s := by
  refine codeAny_loop rfl I (fun n s hI => ?_) n h
  show wpAny _ A ((compTurn (.ListComp elt [⟨target, iter, ifs, 0⟩] scope pos) 0 it acc env).onRaise (fun x => do noteFrame x env; theTreesLotGoes x)) _ _ s
  refine wpAny_noted ?_
  rw [compTurn_list]
  refine wpAny_bind (wpAny_standAt (wpAny_bind (wpAny_mono (turn n s hI) (fun r s₁ h₁ => ?_) fun _ _ h' => h'.elim)))
  cases r with
  | none => exact wpAny_pure h₁
  | some v =>
    refine wpAny_bind (wpAny_mono h₁ (fun _ s₁' h₁' => ?_) fun _ _ h' => h'.elim)
    refine wpAny_bind (wpAny_mono h₁' (fun _ s₂ h₂ => wpAny_bind (wpAny_mono h₂ (fun ok s₃ h₃ => ?_) fun _ _ h' => h'.elim)) fun _ _ h' => h'.elim)
    cases ok with
    | false => exact wpAny_pure ⟨rfl, h₃⟩
    | true =>
      exact wpAny_bind (wpAny_bind (wpAny_mono h₃ (fun x s₄ h₄ => wpAny_bind (wpAny_mono h₄ (fun _ s₅ h₅ => wpAny_pure (wpAny_pure ⟨rfl, h₅⟩)) fun _ _ h' => h'.elim)) fun _ _ h' => h'.elim))
def clOf (names : List (Str × NameKind)) (env : Env) (cs : List (Str × Addr)) : List (Str × Addr) :=
  names.foldl (fun cs p => if p.2 = .free then (match env.cells.lookup p.1 with | some c => (p.1, c) :: cs | none => cs) else cs) cs
theorem closure_loop {env : Env} : ∀ (names : List (Str × NameKind)) (cs : List (Str × Addr)), (∀ y ∈ names, y.2 = .free → ∃ c, env.cells.lookup y.1 = some c) →
    (forIn names cs fun x r => (if (x.2 == NameKind.free) = true then do let a ← cellOf env x.1; pure (ForInStep.yield ((x.1, a) :: r)) else pure (ForInStep.yield r) : Sem _)) = pure (clOf names env cs)
  | [], cs, _ => by simp [clOf]
  | (n, k) :: r, cs, h => by
    have ih := fun cs => closure_loop r cs fun y hy => h y (List.mem_cons_of_mem _ hy)
    simp only [List.forIn_cons]
    by_cases hk : k = .free
    · subst hk
      obtain ⟨c, e⟩ := h (n, .free) List.mem_cons_self rfl
      have e' : env.cells.lookup n = some c := e
      have ec : cellOf env n = pure c := by unfold cellOf; rw [e']
      simp only [beq_self_eq_true, if_true, ec, pure_bind]
      rw [ih]
      simp [clOf, e']
    · have hb : (k == NameKind.free) = false := by simpa using hk
      simp only [hb, Bool.false_eq_true, if_false, pure_bind]
      rw [ih]
      simp [clOf, hk]
theorem closureFor_eq {scope : Scope} {env : Env} (h : ∀ y ∈ scope.names, y.2 = .free → ∃ c, env.cells.lookup y.1 = some c) : closureFor scope env = pure (clOf scope.names env []) := by
  unfold closureFor
  have := closure_loop scope.names [] h
  simp only [bind_pure]
  exact this
theorem clOf_mem {env : Env} : ∀ (names : List (Str × NameKind)) (cs : List (Str × Addr)) (x : Str) (c : Addr), (x, c) ∈ clOf names env cs → (x, c) ∈ cs ∨ env.cells.lookup x = some c
  | [], cs, x, c, h => .inl h
  | (n, k) :: r, cs, x, c, h => by
    have h' : (x, c) ∈ clOf r env (if k = .free then (match env.cells.lookup n with | some c => (n, c) :: cs | none => cs) else cs) := h
    rcases clOf_mem r _ x c h' with q | q
    · split at q
      · cases e : env.cells.lookup n with
        | none => rw [e] at q; exact .inl q
        | some d =>
          rw [e] at q
          rcases List.mem_cons.mp q with z | z
          · cases z; exact .inr e
          · exact .inl z
      · exact .inl q
    · exact .inr q
theorem clOf_keep {env : Env} : ∀ (names : List (Str × NameKind)) (cs : List (Str × Addr)) (x : Str), (∃ c, (x, c) ∈ cs) → ∃ c, (x, c) ∈ clOf names env cs
  | [], cs, x, h => h
  | (n, k) :: r, cs, x, ⟨c, h⟩ => by
    refine clOf_keep r _ x ?_
    dsimp only
    split
    · split
      · exact ⟨c, List.mem_cons_of_mem _ h⟩
      · exact ⟨c, h⟩
    · exact ⟨c, h⟩
theorem clOf_has {env : Env} : ∀ (names : List (Str × NameKind)) (cs : List (Str × Addr)) (x : Str), (x, NameKind.free) ∈ names → (∃ c, env.cells.lookup x = some c) → ∃ c, (x, c) ∈ clOf names env cs
  | [], _, _, h, _ => by simp at h
  | (n, k) :: r, cs, x, h, ⟨c, e⟩ => by
    rcases List.mem_cons.mp h with z | z
    · have e1 : x = n := congrArg Prod.fst z
      have e2 : NameKind.free = k := congrArg Prod.snd z
      subst e1 e2
      refine clOf_keep r _ x ⟨c, ?_⟩
      dsimp only
      rw [if_pos rfl, e]
      exact List.mem_cons_self
    · exact clOf_has r _ x z ⟨c, e⟩
theorem lookup_of_mem {β : Type} : ∀ (l : List (Str × β)) (x : Str) (c : β), (x, c) ∈ l → ∃ d, l.lookup x = some d
  | (n, d) :: r, x, c, h => by
    cases hx : x == n with
    | true => exact ⟨d, by simp [List.lookup_cons, hx]⟩
    | false =>
      simp only [List.lookup_cons, hx]
      rcases List.mem_cons.mp h with z | z
      · cases z; simp at hx
      · exact lookup_of_mem r x c z
theorem clOf_lookup {names : List (Str × NameKind)} {env : Env} {x : Str} {c : Addr} (h : (clOf names env []).lookup x = some c) : env.cells.lookup x = some c := by
  rcases clOf_mem names [] x c (PySem.mem_of_lookup h) with q | q
  · simp at q
  · exact q
theorem clOf_some {names : List (Str × NameKind)} {env : Env} {x : Str} {c : Addr} (h : (x, NameKind.free) ∈ names) (e : env.cells.lookup x = some c) : (clOf names env []).lookup x = some c := by
  obtain ⟨d, hd⟩ := clOf_has names [] x h ⟨c, e⟩
  obtain ⟨d', hd'⟩ := lookup_of_mem _ _ _ hd
  have := clOf_lookup hd'
  rw [e] at this
  cases this
  exact hd'
theorem lookup_relabel_free {env : Env} : ∀ {names : List (Str × NameKind)} {x : Str}, names.lookup x = some .free →
    (names.map fun (n, k) => if (k == NameKind.free && env.scope.kind == .function && env.kindOf n == some .cell) then (n, NameKind.cell) else (n, k)).lookup x = some .cell ∨
    (names.map fun (n, k) => if (k == NameKind.free && env.scope.kind == .function && env.kindOf n == some .cell) then (n, NameKind.cell) else (n, k)).lookup x = some .free
  | [], _, h => by simp at h
  | (n, k) :: r, x, h => by
    have ih := @lookup_relabel_free env r x
    show List.lookup x ((if (k == NameKind.free && env.scope.kind == .function && env.kindOf n == some .cell) = true then (n, NameKind.cell) else (n, k)) :: _) = _ ∨ List.lookup x ((if (k == NameKind.free && env.scope.kind == .function && env.kindOf n == some .cell) = true then (n, NameKind.cell) else (n, k)) :: _) = _
    by_cases hc : (k == NameKind.free && env.scope.kind == .function && env.kindOf n == some .cell) = true
    · rw [if_pos hc]
      cases hx : x == n with
      | true => left; simp [List.lookup_cons, hx]
      | false =>
        simp only [List.lookup_cons, hx] at h ⊢
        exact ih h
    · rw [if_neg hc]
      cases hx : x == n with
      | true =>
        simp only [List.lookup_cons, hx] at h
        cases h
        right; simp [List.lookup_cons, hx]
      | false =>
        simp only [List.lookup_cons, hx] at h ⊢
        exact ih h
structure CompScope (own : List Str) (caps : List Nat) (N : List Str) (sc scope : Scope) : Prop where
  kind : scope.kind = .function
  nocell : ∀ y ∈ scope.names, y.2 ≠ .cell
  loc : ∀ y ∈ scope.names, y.2 = .local → scope.names.lookup y.1 = some .local
  fr : ∀ y ∈ scope.names, y.2 = .free → sc.names.lookup y.1 = some .cell ∨ sc.names.lookup y.1 = some .free
  cap : ∀ i ∈ caps, i < N.length ∧ scope.names.lookup ((N[i]?).getD Str.empty) = some .free
def cxComp (X : Cx) (own : List Str) (caps : List Nat) (scope : Scope) (s : Shared) (H : Hp) (fp : List Addr) (C : Addr) : Cx :=
  { X with N := own ++ caps.map (fun i => (X.N[i]?).getD Str.empty), s₀ := s, H₀ := H, env := compEnvC scope (clOf scope.names X.env []) C X.env, outer := X.stack, ex := fp, fn := fun _ => false, pn := [], xe := fun _ _ => False }
def tau0 (n : Nat) (caps : List Nat) (σ : St) : St := List.replicate n none ++ caps.map fun i => (σ[i]?).join
section
variable {X : Cx} {pins : List (Addr × Obj)} {σ : St} {H : Hp} {s : Shared}
theorem free_of_kind {scope : Scope} {env : Env} (nc : ∀ y ∈ scope.names, y.2 ≠ .cell) {x : Str} {k : NameKind} (hk : k = .cell ∨ k = .free) (h : (relabel scope env).names.lookup x = some k) : (x, NameKind.free) ∈ scope.names := by
  have hm := PySem.mem_of_lookup h
  obtain ⟨⟨n, k0⟩, hy, e⟩ := List.mem_map.mp hm
  dsimp only at e
  split at e
  · rename_i hc
    simp only [Bool.and_eq_true, beq_iff_eq] at hc
    have e1 : n = x := congrArg Prod.fst e
    subst e1
    rw [hc.1.1] at hy
    exact hy
  · cases e
    rcases hk with z | z
    · subst z; exact absurd rfl (nc _ hy)
    · subst z; exact hy
theorem inv_comp {own : List Str} {caps : List Nat} {scope : Scope} {fp : List Addr} {D C : Addr} {o : Obj} {h1 : Heap} {tk : Nat} (I : Inv X pins σ H s) (S : CompScope own caps X.N X.env.scope scope)
    (f : ∀ b ∈ fp, FpOk X pins H b) (fl : ∀ b ∈ fp, b < s.heap.objs.size) (hD : s.heap.objs.size ≤ D) (hC : s.heap.objs.size ≤ C) (hDC : D ≠ C) (keep : ∀ b o, s.heap.get? b = some o → h1.get? b = some o)
    (hns : h1.Ns C fun _ => none) (hacc : h1.get? D = some o) (ho : ∀ v, o.data ≠ .cell v) :
    Inv (cxComp X own caps scope s H fp C) [(D, o)] (tau0 own.length caps σ) H { s with heap := h1, toks := tk } := by
  have sub : ∀ b ∈ frs X.stack, b < s.heap.objs.size := fun b hb => by
    rcases List.mem_cons.mp (I.stkSub b hb) with e | hb
    · rw [e]; exact I.lt
    · by_cases q : b < s.heap.objs.size
      · exact q
      · exact absurd hb (I.nofs (Nat.le_of_not_lt q))
  refine ⟨⟨I.ok.mod, S.kind, I.ok.glob, I.ok.blt, hC, fun x y c h1 h2 => I.ok.inj x y c (clOf_lookup h1) (clOf_lookup h2), fun x hx => ?_, fun x c z _ => absurd (show false = true from z) Bool.false_ne_true, I.ok.hd, I.ok.frames, .inl rfl,
      fun b hb => ⟨Nat.ne_of_lt (Nat.lt_of_lt_of_le (fl b hb) hC), fun x c e => (f b hb).2.2.2.2.1 x c (clOf_lookup e)⟩, I.bs, Nat.le_trans I.ok.bsz I.sz, fun b ob e hb => ?_, fun b hb hs => ?_, I.stack, I.stkFree⟩,
    rfl, I.bare, Un.kept keep, ⟨_, hns, fun i x v e1 e2 e3 => ?_⟩, fun x c e => ?_, I.hok.fresh hC, fun x c e => I.freeC x c (clOf_lookup e), fun p hp => ?_, I.hok.kept keep, ?_⟩
  · have hm : (x, NameKind.free) ∈ scope.names := by
      rcases hx with hx | hx
      · exact free_of_kind S.nocell (.inl rfl) hx
      · exact free_of_kind S.nocell (.inr rfl) hx
    obtain ⟨c, hc⟩ := I.ok.has x (S.fr _ hm rfl)
    exact ⟨c, clOf_some hm hc⟩
  · rcases (f b hb).2.2.2.1 with z | z
    · exact I.ok.noex b ob e z
    · exact absurd (Nat.lt_of_lt_of_le (Heap.lt_size e) (Nat.le_trans I.ok.bsz z)) (Nat.lt_irrefl _)
  · rcases List.mem_cons.mp (I.stkSub b hs) with e | e
    · exact (f b hb).2.1 e
    · exact (f b hb).2.2.1 e
  · have e2' : (List.replicate own.length (none : Option V) ++ caps.map fun i => (σ[i]?).join)[i]? = some (some v) := e2
    have e1' : (own ++ caps.map (fun i => (X.N[i]?).getD Str.empty))[i]? = some x := e1
    have hi : own.length ≤ i := by
      by_cases q : i < own.length
      · rw [List.getElem?_append_left (by simpa using q), List.getElem?_replicate, if_pos q] at e2'
        cases e2'
      · exact Nat.le_of_not_lt q
    rw [List.getElem?_append_right (by simpa using hi), List.length_replicate, List.getElem?_map] at e2'
    rw [List.getElem?_append_right hi, List.getElem?_map] at e1'
    cases ek : caps[i - own.length]? with
    | none => rw [ek] at e1'; cases e1'
    | some k =>
      rw [ek] at e1' e2'
      have ex : (X.N[k]?).getD Str.empty = x := Option.some.inj e1'
      have ev : (σ[k]?).join = some v := Option.some.inj e2'
      have ev' : σ[k]? = some (some v) := by
        cases q : σ[k]? with
        | none => rw [q] at ev; cases ev
        | some y => rw [q] at ev; exact congrArg some ev
      obtain ⟨hl, hf⟩ := S.cap k (List.mem_of_getElem? ek)
      have eN : X.N[k]? = some x := by
        rw [List.getElem?_eq_getElem hl] at ex ⊢
        exact congrArg some ex
      rw [ex] at hf
      have hm := PySem.mem_of_lookup hf
      have hfr := S.fr _ hm rfl
      obtain ⟨m, _, hl'⟩ := I.loc
      obtain ⟨u, ru, lk⟩ := hl' k x v eN ev' (.inr hfr)
      refine ⟨u, ru, .inr ⟨lookup_relabel_free hf, ?_⟩⟩
      rcases lk with ⟨kl, _⟩ | ⟨_, c, hc, ob, hob, hd⟩
      · have kl' : X.env.scope.names.lookup x = some .local := kl
        rcases hfr with z | z
        · have z' : X.env.scope.names.lookup x = some .cell := z
          rw [z'] at kl'; cases kl'
        · have z' : X.env.scope.names.lookup x = some .free := z
          rw [z'] at kl'; cases kl'
      · exact ⟨c, clOf_some hm hc, ob, keep c ob hob, hd⟩
  · obtain ⟨v, ob, hob, hd⟩ := I.cell x c (clOf_lookup e)
    exact ⟨v, ob, keep c ob hob, hd⟩
  · have e : p = (D, o) := by simpa using (show p ∈ [] ++ [(D, o)] from hp)
    subst e
    refine ⟨hacc, I.hok.fresh hD, hDC, fun z => ?_, ho⟩
    exact absurd (Nat.lt_of_lt_of_le (sub D z) hD) (Nat.lt_irrefl _)
  · show (tau0 own.length caps σ).length = (own ++ caps.map (fun i => (X.N[i]?).getD Str.empty)).length
    simp [tau0]
def PTs (X : Cx) (ifs : List Expr) (t : TT) : Prop :=
  ∀ (pins : List (Addr × Obj)) (s : Shared) (σ : St) (H : Hp) (Q : Bool → Hp → Prop), Inv X pins σ H s → t σ H Q →
    wpAny (model X.prog X.w) X.A (forIn ifs true fun c r => if r = true then do let ok ← isTrue c X.env (eval c X.env); pure (ForInStep.yield ok) else pure (ForInStep.yield r)) (TP X pins σ Q) X.xe s
def tYes : TT := fun _ H Q => Q true H
theorem pts_nil : PTs X [] tYes := fun _ s σ H Q I h => wpAny_tests_nil ⟨H, I, h⟩
def tComp (n : Nat) (caps : List Nat) (wi : TI) (g : TG) (tc : TT) (te : TE) : TE := fun σ H Q => wi σ H fun J H1 => ∃ W : Nat → Nat → St → List V → Hp → Prop, (∃ m, W 0 m (tau0 n caps σ) [] H1) ∧ ∀ i m τ acc H, W i m τ acc H →
  (J.stop i H ∧ acc.length ≤ sizeLine ∧ ∀ p, H p = none → Q (.ref p) (upd H p (.lst acc))) ∨
  (J.go i H ∧ acc.length < sizeLine ∧ ∀ x H', J.yld i H x H' → g x τ H' fun τ2 H2 => tc τ2 H2 fun b H3 => if b = true then te τ2 H3 fun y H4 => ∃ m', m' < m ∧ W (i + 1) m' τ2 (acc ++ [y]) H4 else ∃ m', m' < m ∧ W (i + 1) m' τ2 acc H3)
theorem HOk.track {P : Program} {w : World} {H : Hp} {h : Heap} {a : Addr} {o : HO} (x : HOk P w H h) (hn : H a = none) (new : ObjOk P w (upd H a o) h a o) : HOk P w (upd H a o) h := fun b u e => by
  by_cases hb : b = a
  · subst hb; rw [upd_same] at e; cases e; exact new
  · rw [upd_ne hb] at e
    exact (x b u e).stay (fun c v _ q => q) (fun c q => by rw [upd_ne (ne_of_none q hn)]; exact q) fun c xs q => by rw [upd_ne (ne_of_none q hn)]; exact q
theorem pe_comp {own : List Str} {caps : List Nat} {elt tg iter : Expr} {ifs : List Expr} {scope : Scope} {pos : Pos} {wi : TI} {g : TG} {tc : TT} {te : TE} (hc : X.calm = true) (S : CompScope own caps X.N X.env.scope scope) (hi : PI X tg iter wi)
    (hg : ∀ s H fp C, PG (cxComp X own caps scope s H fp C) tg g) (ht : ∀ s H fp C, PTs (cxComp X own caps scope s H fp C) ifs tc) (he : ∀ s H fp C, PE (cxComp X own caps scope s H fp C) elt te)
    (hs : ∀ x, foldedSetIterable iter X.env x = pure x := by intro _; rfl) : PE X (.ListComp elt [⟨tg, iter, ifs, 0⟩] scope pos) (tComp own.length caps wi g tc te) := by
  intro pins s σ H Q I h
  rw [eval_ListComp]
  refine wpAny_comprehension_free (use := none) (cl := clOf scope.names X.env []) rfl hs (closureFor_eq fun y hy e => I.ok.has y.1 (S.fr y hy e)) S.kind S.loc
    (wpAny_mono (hi pins s σ H _ I h) (fun v s1 h1 => thn h1 fun itv s2 h2 => ?_) fun _ _ e => e)
  obtain ⟨it, fp, tn, J, H2, e, I2, T, st2, f2, W, ⟨m0, w0⟩, turn⟩ := h2
  subst e
  refine wpAny_newObj_type (wpAny_newFunctionEnv S.nocell (by intro y hy; simp at hy) (fun h₁ hns₁ hsb₁ => ?_) S.kind)
  dsimp only at hns₁ hsb₁ ⊢
  generalize hH2 : s2.heap.push { cls := .type "list", dict := none, data := .seq ([] : List Value).toArray } = G at hns₁ hsb₁ ⊢
  have hG : G.objs.size = s2.heap.objs.size + 1 := by rw [← hH2, Heap.size_push]
  have hDC : s2.heap.objs.size ≠ G.objs.size := by rw [hG]; exact Nat.ne_of_lt (Nat.lt_succ_self _)
  have hCle : s2.heap.objs.size ≤ G.objs.size := by rw [hG]; exact Nat.le_succ _
  have below : ∀ b, b < s2.heap.objs.size → b ≠ G.objs.size := fun b hb => by rw [hG]; exact Nat.ne_of_lt (Nat.lt_succ_of_lt hb)
  have old : ∀ b o, s2.heap.get? b = some o → h₁.get? b = some o := fun b o e => hsb₁.extBut b o (below b (Heap.lt_size e)) (Heap.get?_push_of_some _ (hH2 ▸ Heap.get?_push_of_some _ e))
  have hacc : h₁.get? s2.heap.objs.size = some { cls := .type "list", dict := none, data := .seq ([] : List Value).toArray } := hsb₁.extBut _ _ hDC (Heap.get?_push_of_some _ (hH2 ▸ Heap.get?_push_size _ rfl))
  have fl : ∀ b ∈ fp, b < s2.heap.objs.size := fun b hb => let ⟨o, e, _⟩ := T.obj _ _ st2 b hb; Heap.lt_size e
  have hns₁' : h₁.Ns G.objs.size fun _ => none := hns₁
  have I4 := inv_comp (tk := s2.toks + ([] : List (Str × Value)).length) I2 S f2 fl (Nat.le_refl _) hCle hDC old hns₁' hacc (fun v z => nomatch z)
  have st4 : tn 0 h₁ := T.keep _ _ _ st2 fun b _ o e => old b o e
  generalize hs4 : ({ s2 with heap := h₁, toks := s2.toks + ([] : List (Str × Value)).length } : Shared) = s4 at I4 ⊢
  have e4 : s4.heap = h₁ := by rw [← hs4]
  rw [← e4] at st4
  -- the loop
  have loop : codeAny (model X.prog X.w) X.A (.compLoop (.ListComp elt [⟨tg, iter, ifs, 0⟩] scope pos) 0 (.ref it) (.ref s2.heap.objs.size) (compEnvC scope (clOf scope.names X.env []) G.objs.size X.env))
      (compPost (model X.prog X.w) X.A X.xe none (EP X pins σ Q) (.ref s2.heap.objs.size) G.objs.size) s4 := by
    let Y := cxComp X own caps scope s2 H2 fp G.objs.size
    have stat : ∀ {H' : Hp} {its : List Value} {n : Nat}, (∀ b ∈ fp, H' b = none) → ∀ b ∈ fp, FpOk Y [(s2.heap.objs.size, ({ cls := .type "list", data := .seq its.toArray n } : Obj))] H' b := fun {H' its n} hn b hb => by
      refine ⟨hn b hb, below b (fl b hb), fun z => ?_, .inl hb, fun x c e => (f2 b hb).2.2.2.2.1 x c (clOf_lookup e), fun p hp => ?_⟩
      · rcases List.mem_cons.mp (I2.stkSub b z) with e | e
        · exact (f2 b hb).2.1 e
        · exact (f2 b hb).2.2.1 e
      · have e : p = (s2.heap.objs.size, ({ cls := .type "list", data := .seq its.toArray n } : Obj)) := by simpa using (show p ∈ [] ++ [_] from hp)
        subst e
        exact Nat.ne_of_gt (fl b hb)
    refine loop_comp (fun n s' => ∃ i τ acc its k H', Inv Y [(s2.heap.objs.size, ({ cls := .type "list", data := .seq its.toArray k } : Obj))] τ H' s' ∧ tn i s'.heap ∧ (∀ b ∈ fp, H' b = none) ∧ Vals acc its ∧ W i n τ acc H') ?_ m0
      ⟨0, _, [], [], 0, H2, I4, st4, fun b hb => (f2 b hb).1, .nil, w0⟩
    rintro n s5 ⟨i, τ, acc, its, k, H5, I5, st5, fr5, rv5, w5⟩
    rcases turn i n τ acc H5 w5 with ⟨stop, hz, q⟩ | ⟨go, hz, step⟩
    · refine thn (T.done Y rfl rfl rfl hc i _ s5 τ H5 (fun _ _ => False) I5 (stat fr5) st5 stop) fun r s6 ⟨hr, I6⟩ => ?_
      subst hr
      obtain ⟨eD, nD, _, _, _⟩ := I6.pin _ (List.mem_append_right _ (List.mem_singleton.mpr rfl))
      obtain ⟨m6, hm6, _⟩ := I6.loc
      refine ⟨m6, hm6, fun h' hsb => ?_⟩
      have hC6 : H5 G.objs.size = none := I6.free
      have eD' : h'.get? s2.heap.objs.size = some { cls := .type "list", data := .seq its.toArray k } := hsb.extBut _ _ hDC eD
      have hok6 : HOk X.prog X.w H5 h' := fun b u e => (I6.hok b u e).stay (fun c v hcv qv => hsb.extBut c v (by
          rcases hcv with z | z
          · subst z; exact ne_of_none e hC6
          · exact ne_of_none z hC6) qv) (fun _ q => q) fun _ _ q => q
      refine ⟨.ref s2.heap.objs.size, _, ?_, rfl, q _ nD⟩
      have ub := I6.base
      refine I2.call' (ch := fp) (s' := { s6 with heap := h' }) I6.os ⟨fun b o e n' hb hx => hsb.extBut b o (below b (Heap.lt_size e)) (ub.keep b o e n' hb hx), fun b o e n' hb hx => ?_, fun b o e n' hx => ?_, fun b o e hx => ?_, fun b xs e => ?_, fun b o u e => ?_, fun b ps e => ?_⟩
        (hok6.track nD ⟨hz, its, k, rv5, eD'⟩) I6.bare fun b hb => ⟨(f2 b hb).2.2.2.1, (f2 b hb).2.1, (f2 b hb).2.2.2.2.1, (f2 b hb).2.2.2.2.2⟩
      · obtain ⟨sl, e'⟩ := ub.slot b o e n' hb hx
        exact ⟨sl, hsb.extBut b _ (below b (Heap.lt_size e)) e'⟩
      · rw [upd_ne (Nat.ne_of_lt (Heap.lt_size e))]
        exact ub.free b o e n' hx
      · obtain ⟨o', e'⟩ := ub.there b o e hx
        exact ⟨o', hsb.extBut b _ (below b (Heap.lt_size e)) e'⟩
      · have z := ub.tups b xs e
        rw [upd_ne (ne_of_none z nD)]; exact z
      · have z := ub.frzs b o u e
        rw [upd_ne (ne_of_none z nD)]; exact z
      · obtain ⟨more, z⟩ := ub.tbls b ps e
        exact ⟨more, by rw [upd_ne (ne_of_none z nD)]; exact z⟩
    · refine thn (T.item Y rfl rfl rfl hc i _ s5 τ H5 (fun _ _ => False) I5 (stat fr5) st5 go) fun r s6 ⟨u, hr, h6⟩ => ?_
      subst hr
      refine thn h6 fun _ s7 ⟨x, H7, I7, r7, y7, st7, fr7⟩ => ?_
      have I7' := I7.pinned (stat fr7) (T.obj _ _ st7)
      refine thn (hg s2 H2 fp G.objs.size _ s7 τ H7 x u _ I7' r7 (step x H7 y7)) fun _ s8 ⟨τ8, H8, I8, q8⟩ => ?_
      refine thn (ht s2 H2 fp G.objs.size _ s8 τ8 H8 _ I8 q8) fun ok s9 ⟨H9, I9, q9⟩ => ?_
      -- the iterator's state behind the turn
      have back : ∀ {s' : Shared} {τ' : St} {H' : Hp}, Inv Y ([(s2.heap.objs.size, ({ cls := .type "list", data := .seq its.toArray k } : Obj))] ++ pinsAt fp s7.heap) τ' H' s' → (tn (i + 1) s'.heap ∧ ∀ b ∈ fp, H' b = none) := fun {s' τ' H'} Ib =>
        ⟨T.keep _ _ _ st7 fun b hb o e => (Ib.pin (b, o) (List.mem_append_right _ (List.mem_append_right _ (mem_pinsAt hb e)))).1, fun b hb => by
          obtain ⟨o, e, d⟩ := T.obj _ _ st7 b hb
          exact (Ib.pin (b, o) (List.mem_append_right _ (List.mem_append_right _ (mem_pinsAt hb e)))).2.1⟩
      cases ok with
      | false =>
        obtain ⟨m', hm', w'⟩ := q9
        obtain ⟨sb, fb⟩ := back I9
        exact ⟨m', hm', i + 1, τ8, acc, its, k, H9, I9.unpinned, sb, fb, rv5, w'⟩
      | true =>
        refine thn (he s2 H2 fp G.objs.size _ s9 τ8 H9 _ I9 q9) fun y s10 ⟨yv, H10, I10, r10, q10⟩ => ?_
        obtain ⟨m', hm', w'⟩ := q10
        obtain ⟨sb, fb⟩ := back I10
        obtain ⟨eD, nD, neD, nfD, _⟩ := I10.pin (s2.heap.objs.size, _) (List.mem_append_right _ (List.mem_append_left _ (List.mem_singleton.mpr rfl)))
        have hl : acc.length = its.length := rv5.length
        refine call_meets F.slot_list_append ⟨_, eD, rfl⟩ F.entry_list_append (F.args_list_append_2 _ _) (PySem.list_append s2.heap.objs.size its.toArray k y (by rw [List.size_toArray]; omega)) ⟨eD, ?_⟩
        have q := PySem.IsL.update eD (fun a : Array Value => a.push y)
        have Iu : Inv Y [] τ8 H10 s10 := I10.pins_of fun p hp => nomatch hp
        have It := Iu.turned (t' := s10.toks) (it := s2.heap.objs.size) (h' := s10.heap.update s2.heap.objs.size (Obj.mapSeq (fun a : Array Value => a.push y))) (fun b o hb e => (Heap.get?_update_other s10.heap _ (Ne.symm hb)).trans e) nD neD (.inr (Nat.le_refl _))
          (fun x c e z => by
            obtain ⟨v, ob, hob, _⟩ := I2.cell x c (clOf_lookup e)
            exact absurd (Heap.lt_size hob) (by rw [z]; exact Nat.lt_irrefl _)) (fun p hp => nomatch hp)
        have It' := It.pins_of (pins' := [(s2.heap.objs.size, ({ cls := .type "list", data := .seq (its ++ [y]).toArray (k + 1) } : Obj))]) fun p hp => by
          have e : p = _ := List.mem_singleton.mp hp
          subst e
          exact ⟨by simpa using q, nD, neD, nfD, fun v z => nomatch z⟩
        refine ⟨m', hm', i + 1, τ8, acc ++ [yv], its ++ [y], _, H10, It', T.keep _ _ _ sb fun b hb o e => (Heap.get?_update_other s10.heap _ (Nat.ne_of_gt (fl b hb))).trans e, fb, rv5.append (.cons r10 .nil), w'⟩
  exact codeAny_compStart_list loop (T.self _ 0 s4 _ _ st4 loop)
end
end L2
set_option Elab.async false
set_option linter.all false
set_option maxRecDepth 100000
set_option maxHeartbeats 4000000
namespace L2
open PySem PySem.Spec PyProof.Rows
open AutoSeq1 (wpAny_loadPart')
section
variable {prog : Program} {w : World} {A : Around} {E : Value → Shared → Prop} {s : Shared}
end
section
variable {prog : Program} {w : World} {A : Around} {E : Value → Shared → Prop} {s : Shared}
end
end L2
set_option Elab.async false
set_option linter.all false
set_option maxRecDepth 100000
set_option maxHeartbeats 4000000
namespace L2
open PySem PySem.Spec PyProof.Rows
def tyS (H : Hp) : V → Option String
  | .non => some "NoneType"
  | .bl _ => some "bool"
  | .int _ => some "int"
  | .str _ => some "str"
  | .ref a => match H a with
    | some (.lst _) => some "list"
    | some (.frz _ (.lst _)) => some "list"
    | some (.tup _) => some "tuple"
    | some (.dK _) => some "dict"
    | _ => none
  | _ => none
theorem tyS_of {K : PySem.W.Frag} {H : Hp} {x : V} {t : String} (h : tyS H x = some t) : TyOf K H x (.type t) := by
  cases x with
  | non => cases h; exact .non
  | bl b => cases h; exact .bl b
  | int i => cases h; exact .int i
  | str x => cases h; exact .str x
  | ref a =>
    unfold tyS at h
    dsimp only at h
    split at h
    · rename_i e; cases h; exact .lst e
    · rename_i e; cases h; exact .frz e
    · rename_i e; cases h; exact .tup e
    · rename_i e; cases h; exact .dK e
    · cases h
  | _ => cases h
theorem tyS_six {H : Hp} {x : V} {t : String} (h : tyS H x = some t) : t = "NoneType" ∨ t = "bool" ∨ t = "int" ∨ t = "str" ∨ t = "list" ∨ t = "tuple" ∨ t = "dict" := by
  cases x with
  | ref a =>
    unfold tyS at h
    dsimp only at h
    split at h <;> cases h <;> simp
  | _ => cases h <;> simp
def isSub (t T : String) : Bool := t == T || (t == "bool" && T == "int")
theorem kit_of {K : PySem.W.Frag} {t T : String} (h : t = "NoneType" ∨ t = "bool" ∨ t = "int" ∨ t = "str" ∨ t = "list" ∨ t = "tuple" ∨ t = "dict") (hT : T = "int" ∨ T = "bool" ∨ T = "list" ∨ T = "tuple") : PySem.W.kitOne K (.type t) (.type T) = some (isSub t T) := by
  rcases h with rfl | rfl | rfl | rfl | rfl | rfl | rfl <;> rcases hT with rfl | rfl | rfl | rfl <;> first | rfl | decide +kernel
section
variable {X : Cx}
theorem call_isinst : CallR X (.builtin "isinstance") (fun xs H Q => ∃ x t T, xs = [x, .ty T] ∧ tyS H x = some t ∧ (T = "int" ∨ T = "bool" ∨ T = "list" ∨ T = "tuple") ∧ Q (.bl (isSub t T)) H) := by
  intro pins s σ H xs us Q I r h
  obtain ⟨x, t, T, rfl, ht, hT, q⟩ := h
  obtain ⟨u, w', rfl, r1, r2⟩ := vals2 r
  cases r2
  exact isinst_ok I r1 (tyS_of ht) (kit_of (tyS_six ht) hT) fun tk => ⟨.bl _, H, I.tok tk, rfl, q⟩
theorem op_fdivB : OpR X (binaryOp .FloorDiv) (rI (fun _ j => 0 < j ∧ j < 2 ^ 200) fun i j => .int (i / j)) := opI fun i j _ _ _ _ _ hc q => by
  have e : i.fdiv j = i / j := Int.fdiv_eq_ediv_of_nonneg _ (by omega)
  rw [← e] at q
  refine floordiv_int (by omega) q (.inl (PyProof.noPylong_of_log2 ?_))
  have h0 : j.natAbs ≠ 0 := by omega
  have h1 : j.natAbs < 2 ^ 200 := by omega
  have := (Nat.log2_lt h0).mpr h1
  omega
theorem op_neNil (hu : X.A.units + 64 < cLine) : OpR X (compareOp .NotEq) (fun x y H Q => ∃ a b xs, x = .ref a ∧ y = .ref b ∧ SqL X.K H a xs ∧ SqL X.K H b [] ∧ Q (.bl (!xs.isEmpty)) H) := by
  intro pins s σ H x y v u Q I rx ry h
  obtain ⟨a, b, xs, rfl, rfl, ha, hb, q⟩ := h
  cases rx; cases ry
  obtain ⟨its, r, p, _⟩ := I.list ha
  obtain ⟨its2, r2, p2, _⟩ := I.list hb
  cases r2
  cases r with
  | nil => exact SeqAt.RcNeAt.lists (e := fun _ => true) p.isList p2.isList rfl (by omega) (fun j h1 => absurd h1 (Nat.not_lt_zero _)) _ _ _ _ ⟨.bl _, H, I, rfl, q⟩
  | cons r1 rr => exact SeqAt.RcNeAt.lists_lengths p.isList p2.isList (by simp) (by omega) _ _ _ _ ⟨.bl _, H, I, rfl, q⟩
theorem op_eqUnit (hu : X.A.units + 64 < cLine) : OpR X (compareOp .Eq) (fun x y H Q => ∃ a b xs, x = .ref a ∧ y = .ref b ∧ SqT X.K H a xs ∧ SqT X.K H b [] ∧ Q (.bl xs.isEmpty) H) := by
  intro pins s σ H x y v u Q I rx ry h
  obtain ⟨a, b, xs, rfl, rfl, ha, hb, q⟩ := h
  cases rx; cases ry
  obtain ⟨its, r, p, _⟩ := I.tuple ha
  obtain ⟨its2, r2, p2, _⟩ := I.tuple hb
  cases r2
  have q' : Q (.bl ((List.range (min its.toArray.size ([] : List Value).toArray.size)).all (fun _ => true) && its.toArray.size == ([] : List Value).toArray.size)) H := by
    cases r with
    | nil => simpa using q
    | cons r1 rr => simpa using q
  exact SeqAt.RcAt.tuples (e := fun _ => true) p p2 (by omega) (fun j h1 h2 => absurd h2 (Nat.not_lt_zero _)) _ _ _ _ ⟨.bl _, H, I, rfl, q'⟩
variable {K : PySem.W.Frag}
theorem pg_tup' {es : List Expr} {k : Nat} {t : TGs} {n : Nat} {pos : Pos} (hK : X.K = K) (hc : X.calm = true) (h : PGs X es t)
    (hn : (assignEach es X.env).length = n := by rfl) (hst : (assignEach es X.env).findIdx? (·.1) = none := by rfl) : PG X (.Tuple es k pos) (gTup K n t) := by subst hK; exact pg_tup hc h hn hst
theorem pi_list' {tg l : Expr} {tl : TE} (hK : X.K = K) (hl : PE X l tl) : PI X tg l (iList K tl) := by subst hK; exact pi_list hl
theorem ix_list' (hK : X.K = K) : IxR X (rIxL K) := by subst hK; exact ix_list
theorem ix_tup' (hK : X.K = K) : IxR X (rIxT K) := by subst hK; exact ix_tup
theorem op_in_seq' (hK : X.K = K) : OpR X (compareOp .In) (rIn K false) := by subst hK; exact op_in_seq
theorem call_len_seq' (hK : X.K = K) : CallR X (.builtin "len") (fun xs H Q => ∃ p ys, xs = [.ref p] ∧ (SqL K H p ys ∨ SqT K H p ys) ∧ Q (.int ys.length) H) := by subst hK; exact call_len_seq
end
end L2
namespace L2
open PySem PySem.Spec PyProof.Rows
theorem get_list {X : Cx} {K : PySem.W.Frag} (hK : X.K = K) : PGet X (fun o i H Q => ∃ p xs v, ∃ k : Nat, o = .ref p ∧ i = .int k ∧ SqL K H p xs ∧ xs[k]? = some v ∧ Q v H) := by
  subst hK
  intro pins s σ H o i ov iv Q I ro ri h
  obtain ⟨p, xs, v, k, rfl, rfl, hq, hv, q⟩ := h
  cases ro
  obtain ⟨t, rfl⟩ := ri
  obtain ⟨its, r, pl, hz⟩ := I.list hq
  obtain ⟨w, ew, rw'⟩ := r.get hv
  have hk : k < xs.length := (List.getElem?_eq_some_iff.mp hv).1
  have hn := line63
  exact wpAny_getItem_list pl.isList (by omega) (by omega) (by simpa using ew) ⟨v, H, I, rw', q⟩
end L2
set_option Elab.async false
set_option linter.all false
set_option maxRecDepth 100000
set_option maxHeartbeats 4000000
namespace SmSort
open PySem PySem.W PyProof.Rows
def KOK {α : Type} (n : Nat) (c : Nat → Nat → Bool) : KasT α → (α → Prop) → Prop
  | .ret a, P => P a
  | .ask i j k, P => i < n ∧ j < n ∧ KOK n c (k (c i j)) P
theorem KOK.bind {α β : Type} {n : Nat} {c : Nat → Nat → Bool} {f : α → KasT β} {P : β → Prop} : ∀ (t : KasT α), KOK n c t (fun a => KOK n c (f a) P) → KOK n c (t.bind f) P
  | .ret a, h => h
  | .ask i j k, h => ⟨h.1, h.2.1, KOK.bind (k (c i j)) h.2.2⟩
theorem KOK.mono {α : Type} {n : Nat} {c : Nat → Nat → Bool} {P P' : α → Prop} (hp : ∀ a, P a → P' a) : ∀ (t : KasT α), KOK n c t P → KOK n c t P'
  | .ret a, h => hp a h
  | .ask i j k, h => ⟨h.1, h.2.1, KOK.mono hp (k (c i j)) h.2.2⟩
theorem KOK.wp {α : Type} {n : Nat} {c : Nat → Nat → Bool} {P : α → Prop} {Q : α → Shared → Prop} {cmp : Nat → Nat → (Bool → Shared → Prop) → Shared → Prop} {s : Shared}
    (hc : ∀ i j C, i < n → j < n → C (c i j) s → cmp i j C s) (hq : ∀ a, P a → Q a s) : ∀ (t : KasT α), KOK n c t P → t.kasWp cmp Q s
  | .ret a, h => hq a h
  | .ask i j k, h => hc i j _ h.1 h.2.1 (KOK.wp hc hq (k (c i j)) h.2.2)
section
variable {n : Nat} {f : Nat → Int}
def at' (p : Array Nat) (i : Nat) : Nat := (p[i]?).getD 0
theorem getD_at (p : Array Nat) (i : Nat) : p.getD i 0 = at' p i := by unfold at'; simp
def g (f : Nat → Int) (p : Array Nat) (i : Nat) : Int := f (at' p i)
def Pm (n : Nat) (p : Array Nat) : Prop := p.Perm (List.toArray (List.range n))
theorem Pm.size {p : Array Nat} (h : Pm n p) : p.size = n := by rw [Array.Perm.size_eq h]; simp
theorem Pm.lt {p : Array Nat} (h : Pm n p) {i : Nat} (hi : i < n) : at' p i < n := by
  have hs := h.size
  have e : at' p i = p[i]'(by omega) := by unfold at'; simp [hs, hi]
  have hm : p[i]'(by omega) ∈ p := Array.getElem_mem _
  have hm' := (Array.Perm.mem_iff h).mp hm
  rw [e]
  simpa using hm'
theorem Pm.rev {p : Array Nat} (h : Pm n p) (i j : Nat) : Pm n (kas_rev p i j) := (mirror_perm p i j _).trans h
theorem Pm.bub {p : Array Nat} (h : Pm n p) (k d : Nat) : Pm n (bubble p k d) := (bubble_perm p k d).trans h
theorem g_rev {p : Array Nat} {i j : Nat} (hj : j ≤ p.size) (k : Nat) : g f (kas_rev p i j) k = if i ≤ k ∧ k < j then g f p (i + j - 1 - k) else g f p k := by
  unfold g at' kas_rev
  rw [getElem?_mirror_all hj k]
  split <;> rfl
theorem g_bub {p : Array Nat} {src d : Nat} (hs : src < p.size) (hd : d ≤ src) (k : Nat) : g f (bubble p src d) k = if k = src - d then g f p src else if src - d < k ∧ k ≤ src then g f p (k - 1) else g f p k := by
  unfold g at'
  rw [getElem?_bubble hs d hd k]
  split
  · rfl
  · split <;> rfl
def Up (f : Nat → Int) (p : Array Nat) (k : Nat) : Prop := ∀ i j, i ≤ j → j < k → g f p i ≤ g f p j
def Dn (f : Nat → Int) (p : Array Nat) (k : Nat) : Prop := ∀ i j, i ≤ j → j < k → g f p j ≤ g f p i
def cf (f : Nat → Int) (i j : Nat) : Bool := decide (f i < f j)
theorem asc_ok {p : Array Nat} (hp : Pm n p) : ∀ (q m : Nat), 1 ≤ m → m + q ≤ n → Up f p m → KOK n (cf f) (kas_asc p q m) (fun m' => m ≤ m' ∧ m' ≤ m + q ∧ Up f p m' ∧ (m' < m + q → g f p m' < g f p (m' - 1)))
  | 0, m, _, _, hu => ⟨Nat.le_refl _, Nat.le_refl _, hu, fun h => absurd h (Nat.lt_irrefl _)⟩
  | q + 1, m, h1, h2, hu => by
    unfold kas_asc
    refine ⟨by rw [getD_at]; exact hp.lt (by omega), by rw [getD_at]; exact hp.lt (by omega), ?_⟩
    rw [getD_at, getD_at]
    by_cases hc : g f p m < g f p (m - 1)
    · have e : cf f (at' p m) (at' p (m - 1)) = true := decide_eq_true hc
      rw [e]; dsimp only; rw [if_pos rfl]
      exact ⟨Nat.le_refl _, by omega, hu, fun _ => hc⟩
    · have e : cf f (at' p m) (at' p (m - 1)) = false := decide_eq_false hc
      rw [e]; dsimp only; rw [if_neg Bool.false_ne_true]
      refine KOK.mono (fun m' h => ⟨by omega, by omega, h.2.2.1, fun z => h.2.2.2 (by omega)⟩) _ (asc_ok hp q (m + 1) (by omega) (by omega) fun i j hij hj => ?_)
      by_cases hjm : j < m
      · exact hu i j hij hjm
      · have ej : j = m := by omega
        subst ej
        by_cases hi : i = j
        · subst hi; omega
        · have := hu i (j - 1) (by omega) (by omega)
          omega
def Blk (f : Nat → Int) (p : Array Nat) (m q : Nat) : Prop := ∀ i, m ≤ i + (q + 1) → i < m → g f p i = g f p (m - 1)
theorem rev_same {p : Array Nat} (hp : Pm n p) {m q : Nat} (hm : m ≤ n) (hq : q + 1 ≤ m) (hb : Blk f p m q) (k : Nat) : g f (kas_rev p (m - (q + 1)) m) k = g f p k := by
  rw [g_rev (by rw [hp.size]; exact hm)]
  split
  · rename_i h
    rw [hb _ (by omega) (by omega), hb k (by omega) (by omega)]
  · rfl
theorem desc_ok : ∀ (t : Nat) (p : Array Nat) (m q : Nat), Pm n p → 1 ≤ m → m + t ≤ n → q + 1 ≤ m → Dn f p m → Blk f p m q →
    KOK n (cf f) (kas_desc t p m q) (fun r => Pm n r.1 ∧ m ≤ r.2.1 ∧ r.2.1 ≤ n ∧ r.2.2 + 1 ≤ r.2.1 ∧ Dn f r.1 r.2.1 ∧ Blk f r.1 r.2.1 r.2.2)
  | 0, p, m, q, hp, h1, h2, h3, hd, hb => ⟨hp, Nat.le_refl _, by simpa using h2, h3, hd, hb⟩
  | t + 1, p, m, q, hp, h1, h2, h3, hd, hb => by
    unfold kas_desc
    refine ⟨by rw [getD_at]; exact hp.lt (by omega), by rw [getD_at]; exact hp.lt (by omega), ?_⟩
    rw [getD_at, getD_at]
    by_cases hc : g f p m < g f p (m - 1)
    · have e : cf f (at' p m) (at' p (m - 1)) = true := decide_eq_true hc
      rw [e]; dsimp only; rw [if_pos rfl]
      have step : ∀ p' : Array Nat, Pm n p' → (∀ k, g f p' k = g f p k) → KOK n (cf f) (kas_desc t p' (m + 1) 0) (fun r => Pm n r.1 ∧ m ≤ r.2.1 ∧ r.2.1 ≤ n ∧ r.2.2 + 1 ≤ r.2.1 ∧ Dn f r.1 r.2.1 ∧ Blk f r.1 r.2.1 r.2.2) := fun p' hp' hg => by
        refine KOK.mono (fun r h => ⟨h.1, by omega, h.2.2⟩) _ (desc_ok t p' (m + 1) 0 hp' (by omega) (by omega) (by omega) (fun i j hij hj => ?_) fun i hi hi' => ?_)
        · rw [hg, hg]
          by_cases hjm : j < m
          · exact hd i j hij hjm
          · have ej : j = m := by omega
            subst ej
            by_cases hi : i = j
            · subst hi; omega
            · have := hd i (j - 1) (by omega) (by omega)
              omega
        · have : i = m + 1 - 1 := by omega
          rw [this]
      split
      · exact step _ (hp.rev _ _) (rev_same hp (by omega) h3 hb)
      · exact step _ hp fun _ => rfl
    · have e : cf f (at' p m) (at' p (m - 1)) = false := decide_eq_false hc
      rw [e]; dsimp only; rw [if_neg Bool.false_ne_true]
      refine ⟨hp.lt (by omega), hp.lt (by omega), ?_⟩
      by_cases hc2 : g f p (m - 1) < g f p m
      · have e2 : cf f (at' p (m - 1)) (at' p m) = true := decide_eq_true hc2
        rw [e2]; dsimp only; rw [if_pos rfl]
        exact ⟨hp, Nat.le_refl _, by show m ≤ n; omega, h3, hd, hb⟩
      · have e2 : cf f (at' p (m - 1)) (at' p m) = false := decide_eq_false hc2
        rw [e2]; dsimp only; rw [if_neg Bool.false_ne_true]
        have eq : g f p m = g f p (m - 1) := by omega
        refine KOK.mono (fun r h => ⟨h.1, by omega, h.2.2⟩) _ (desc_ok t p (m + 1) (q + 1) hp (by omega) (by omega) (by omega) (fun i j hij hj => ?_) fun i hi hi' => ?_)
        · by_cases hjm : j < m
          · exact hd i j hij hjm
          · have ej : j = m := by omega
            subst ej
            by_cases hi : i = j
            · subst hi; omega
            · have := hd i (j - 1) (by omega) (by omega)
              omega
        · rw [show m + 1 - 1 = m from rfl]
          by_cases hi2 : i = m
          · rw [hi2]
          · rw [hb i (by omega) (by omega), eq]
theorem tail3_ok {p : Array Nat} {m : Nat} (hp : Pm n p) (h1 : 1 ≤ m) (hm : m ≤ n) (hd : Dn f p m) : KOK n (cf f) (kas_tail3 m n p) (fun r => Pm n r.2 ∧ r.1 ≤ n ∧ 1 ≤ r.1 ∧ Up f r.2 r.1) := by
  unfold kas_tail3
  have hp' := hp.rev 0 m
  refine KOK.bind _ (KOK.mono (fun m' h => ⟨hp', by omega, by omega, h.2.2.1⟩) _ (asc_ok hp' (n - m) m h1 (by omega) fun i j hij hj => ?_))
  rw [g_rev (by rw [hp.size]; exact hm), g_rev (by rw [hp.size]; exact hm), if_pos ⟨by omega, by omega⟩, if_pos ⟨by omega, by omega⟩]
  exact hd _ _ (by omega) (by omega)
theorem descPart_ok {p : Array Nat} {m : Nat} (hp : Pm n p) (h1 : 1 ≤ m) (hm : m < n) (hd : Dn f p (m + 1)) : KOK n (cf f) (kas_descPart m n p) (fun r => Pm n r.2 ∧ r.1 ≤ n ∧ 1 ≤ r.1 ∧ Up f r.2 r.1) := by
  unfold kas_descPart
  refine KOK.bind _ (KOK.mono (fun r h => ?_) _ (desc_ok (n - (m + 1)) p (m + 1) 0 hp (by omega) (by omega) (by omega) hd fun i hi hi' => by rw [show i = m + 1 - 1 by omega]))
  obtain ⟨a1, a2, a3, a4, a5, a6⟩ := h
  split
  · exact tail3_ok (a1.rev _ _) (by omega) a3 fun i j hij hj => by
      rw [rev_same a1 a3 a4 a6, rev_same a1 a3 a4 a6]
      exact a5 i j hij hj
  · exact tail3_ok a1 (by omega) a3 a5
theorem count_ok {p : Array Nat} (hn : 1 ≤ n) (hp : Pm n p) : KOK n (cf f) (kas_count n p) (fun r => Pm n r.2 ∧ r.1 ≤ n ∧ 1 ≤ r.1 ∧ Up f r.2 r.1) := by
  unfold kas_count
  refine KOK.bind _ (KOK.mono (fun m h => ?_) _ (asc_ok hp (n - 1) 1 (Nat.le_refl _) (by omega) fun i j hij hj => by rw [show i = j by omega]; omega))
  obtain ⟨a1, a2, a3, a4⟩ := h
  split
  · exact ⟨hp, by omega, a1, a3⟩
  · rename_i hne
    have hlt : m < n := by
      have : ¬ m = n := by simpa using hne
      omega
    have a4' := a4 (by omega)
    split
    · rename_i hm1
      refine ⟨by rw [getD_at]; exact hp.lt (by omega), by rw [getD_at]; exact hp.lt (by omega), ?_⟩
      rw [getD_at, getD_at]
      by_cases hc : g f p 0 < g f p (m - 1)
      · have e : cf f (at' p 0) (at' p (m - 1)) = true := decide_eq_true hc
        rw [e]; dsimp only; rw [if_pos rfl]
        exact ⟨hp, by omega, a1, a3⟩
      · have e : cf f (at' p 0) (at' p (m - 1)) = false := decide_eq_false hc
        rw [e]; dsimp only; rw [if_neg Bool.false_ne_true]
        have all : ∀ k, k < m → g f p k = g f p 0 := fun k hk => by
          have := a3 0 k (by omega) hk
          have := a3 k (m - 1) (by omega) (by omega)
          omega
        have gr : ∀ k, g f (kas_rev p 0 m) k = g f p k := fun k => by
          rw [g_rev (by rw [hp.size]; omega)]
          split
          · rw [all _ (by omega), all k (by omega)]
          · rfl
        refine descPart_ok (hp.rev _ _) a1 hlt fun i j hij hj => ?_
        rw [gr, gr]
        by_cases hjm : j < m
        · rw [all i (by omega), all j hjm]; omega
        · have ej : j = m := by omega
          subst ej
          by_cases hi : i = j
          · subst hi; omega
          · have := all i (by omega)
            have := all (j - 1) (by omega)
            omega
    · refine descPart_ok hp a1 hlt fun i j hij hj => ?_
      have em : m = 1 := by omega
      subst em
      by_cases hi : i = j
      · subst hi; omega
      · have e1 : i = 0 := by omega
        have e2 : j = 1 := by omega
        subst e1 e2
        have : g f p 1 < g f p 0 := a4'
        omega
theorem place_ok {p : Array Nat} {k : Nat} (hp : Pm n p) (hk : k < n) (hu : Up f p k) : ∀ (t l r : Nat), l ≤ r → r ≤ k → r ≤ l + t → (∀ i, i < l → g f p i ≤ g f p k) → (∀ i, r ≤ i → i < k → g f p k < g f p i) →
    KOK n (cf f) (kas_place p k t l r) (fun l' => l' ≤ k ∧ (∀ i, i < l' → g f p i ≤ g f p k) ∧ ∀ i, l' ≤ i → i < k → g f p k < g f p i)
  | 0, l, r, h1, h2, h3, ha, hb => ⟨by omega, ha, fun i hi hi' => hb i (by omega) hi'⟩
  | t + 1, l, r, h1, h2, h3, ha, hb => by
    unfold kas_place
    split
    · exact ⟨by omega, ha, fun i hi hi' => hb i (by omega) hi'⟩
    · rename_i hlr
      refine ⟨by rw [getD_at]; exact hp.lt hk, by rw [getD_at]; exact hp.lt (by omega), ?_⟩
      rw [getD_at, getD_at]
      by_cases hc : g f p k < g f p ((l + r) / 2)
      · have e : cf f (at' p k) (at' p ((l + r) / 2)) = true := decide_eq_true hc
        rw [e]; dsimp only; rw [if_pos rfl]
        refine place_ok hp hk hu t l ((l + r) / 2) (by omega) (by omega) (by omega) ha fun i hi hi' => ?_
        have := hu ((l + r) / 2) i (by omega) hi'
        omega
      · have e : cf f (at' p k) (at' p ((l + r) / 2)) = false := decide_eq_false hc
        rw [e]; dsimp only; rw [if_neg Bool.false_ne_true]
        refine place_ok hp hk hu t ((l + r) / 2 + 1) r (by omega) (by omega) (by omega) (fun i hi => ?_) hb
        have := hu i ((l + r) / 2) (by omega) (by omega)
        omega
theorem bin_ok : ∀ (t : Nat) (p : Array Nat) (k : Nat), Pm n p → k + t = n → Up f p k → KOK n (cf f) (kas_bin t p k) (fun p' => Pm n p' ∧ Up f p' n)
  | 0, p, k, hp, hk, hu => ⟨hp, by rw [← hk]; exact hu⟩
  | t + 1, p, k, hp, hk, hu => by
    unfold kas_bin
    refine KOK.bind _ (KOK.mono (fun l h => ?_) _ (place_ok hp (by omega) hu k 0 k (by omega) (by omega) (by omega) (fun i hi => absurd hi (Nat.not_lt_zero _)) fun i hi hi' => absurd hi' (by omega)))
    obtain ⟨a1, a2, a3⟩ := h
    refine bin_ok t _ (k + 1) (hp.bub _ _) (by omega) fun i j hij hj => ?_
    have hs : k < p.size := by rw [hp.size]; omega
    rw [g_bub hs (by omega), g_bub hs (by omega)]
    have el : k - (k - l) = l := by omega
    rw [el]
    by_cases hil : i = l
    · rw [if_pos hil]
      by_cases hjl : j = l
      · rw [if_pos hjl]; omega
      · rw [if_neg hjl, if_pos ⟨by omega, by omega⟩]
        have := a3 (j - 1) (by omega) (by omega)
        omega
    · rw [if_neg hil]
      by_cases hi2 : l < i ∧ i ≤ k
      · rw [if_pos hi2]
        rw [if_neg (by omega), if_pos ⟨by omega, by omega⟩]
        exact hu _ _ (by omega) (by omega)
      · rw [if_neg hi2]
        have hi3 : i < l := by omega
        by_cases hjl : j = l
        · rw [if_pos hjl]; exact a2 i hi3
        · rw [if_neg hjl]
          by_cases hj2 : l < j ∧ j ≤ k
          · rw [if_pos hj2]; exact hu _ _ (by omega) (by omega)
          · rw [if_neg hj2]; exact hu _ _ hij (by omega)
theorem sort_ok (hn : 1 ≤ n) : KOK n (cf f) (kas_sort n) (fun p => Pm n p ∧ Up f p n) := by
  unfold kas_sort
  refine KOK.bind _ (KOK.mono (fun r h => ?_) _ (count_ok hn (show Pm n (List.toArray (List.range n)) from Array.Perm.refl _)))
  obtain ⟨a1, a2, a3, a4⟩ := h
  split
  · have e : max r.1 1 = r.1 := by omega
    rw [e]
    exact bin_ok _ _ _ a1 (by omega) a4
  · have e : r.1 = n := by omega
    exact ⟨a1, by rw [← e]; exact a4⟩
end
end SmSort
set_option Elab.async false
set_option linter.all false
set_option maxRecDepth 100000
set_option maxHeartbeats 4000000
namespace SmSort
def lx : List Int → List Int → Bool
  | [], [] => false
  | [], _ :: _ => true
  | _ :: _, [] => false
  | x :: xs, y :: ys => if x = y then lx xs ys else decide (x < y)
theorem lx_irr : ∀ r : List Int, lx r r = false
  | [] => rfl
  | x :: xs => by unfold lx; rw [if_pos rfl]; exact lx_irr xs
theorem lx_tr : ∀ {a b c : List Int}, lx a b = true → lx b c = true → lx a c = true
  | [], [], _, h, _ => by cases h
  | [], _ :: _, [], _, h => by cases h
  | [], _ :: _, _ :: _, _, _ => rfl
  | _ :: _, [], _, h, _ => by cases h
  | _ :: _, _ :: _, [], _, h => by cases h
  | x :: xs, y :: ys, z :: zs, h, h' => by
    unfold lx at h h' ⊢
    split at h
    · split at h'
      · rename_i e1 e2; rw [if_pos (e1.trans e2)]; exact lx_tr h h'
      · rename_i e1 e2
        simp only [decide_eq_true_eq] at h'
        rw [if_neg (by omega)]; simp only [decide_eq_true_eq]; omega
    · simp only [decide_eq_true_eq] at h
      split at h'
      · rename_i e1 e2
        rw [if_neg (by omega)]; simp only [decide_eq_true_eq]; omega
      · simp only [decide_eq_true_eq] at h'
        rw [if_neg (by omega)]; simp only [decide_eq_true_eq]; omega
theorem lx_tot : ∀ {a b : List Int}, lx a b = false → lx b a = false → a = b
  | [], [], _, _ => rfl
  | [], _ :: _, h, _ => by cases h
  | _ :: _, [], _, h => by cases h
  | x :: xs, y :: ys, h, h' => by
    unfold lx at h h'
    split at h
    · rename_i e; subst e; rw [if_pos rfl] at h'; rw [lx_tot h h']
    · rename_i e
      rw [if_neg fun z => e z.symm] at h'
      simp only [decide_eq_false_iff_not] at h h'
      omega
def rk (rs : List (List Int)) (r : List Int) : Int := ((rs.countP fun x => lx x r : Nat) : Int)
theorem countP_lt {α : Type} {p q : α → Bool} {a : α} : ∀ {l : List α}, (∀ x, p x = true → q x = true) → a ∈ l → p a = false → q a = true → l.countP p < l.countP q
  | [], _, h, _, _ => by cases h
  | x :: l, hpq, h, h1, h2 => by
    have hm : l.countP p ≤ l.countP q := List.countP_mono_left fun x _ => hpq x
    rcases List.mem_cons.mp h with rfl | h
    · rw [List.countP_cons_of_neg (by rw [h1]; exact Bool.false_ne_true), List.countP_cons_of_pos h2]; omega
    · have := countP_lt hpq h h1 h2
      rw [List.countP_cons, List.countP_cons]
      cases e : p x with
      | true => rw [hpq x e]; simp; omega
      | false => cases e2 : q x <;> simp <;> omega
theorem rk_lt {rs : List (List Int)} {a b : List Int} (ha : a ∈ rs) : decide (rk rs a < rk rs b) = lx a b := by
  unfold rk
  cases h : lx a b with
  | true =>
    have := countP_lt (p := fun x => lx x a) (q := fun x => lx x b) (fun x hx => lx_tr hx h) ha (lx_irr a) h
    simp only [decide_eq_true_eq]; omega
  | false =>
    have hm : rs.countP (fun x => lx x b) ≤ rs.countP (fun x => lx x a) := List.countP_mono_left fun x _ hx => by
      cases h' : lx b a with
      | true => exact lx_tr hx h'
      | false => rw [lx_tot h h']; exact hx
    simp only [decide_eq_false_iff_not]; omega
end SmSort
namespace L2
open PySem PySem.Spec PyProof.Rows PySem.W SmSort
theorem ObjOk.at {P : Program} {w : World} {H : Hp} {h : Heap} {a : Addr} {o : HO} (x : ObjOk P w H h a o) : ∃ ob, h.get? a = some ob := by
  cases o with
  | lst xs => obtain ⟨_, _, _, _, e⟩ := x; exact ⟨_, e⟩
  | tup xs => obtain ⟨_, _, _, ob, e, _⟩ := x; exact ⟨_, e⟩
  | dK kvs => obtain ⟨_, _, _, _, o, _, _, e, _⟩ := x; exact ⟨_, e⟩
  | dT kvs => obtain ⟨_, _, _, _, o, _, _, e, _⟩ := x; exact ⟨_, e⟩
  | set S n => obtain ⟨o, _, _, _, e, _⟩ := x; exact ⟨_, e⟩
  | ins C dx fs => obtain ⟨_, _, _, e, _⟩ := x; exact ⟨_, e⟩
  | own y => obtain ⟨_, e⟩ := x; exact ⟨_, e⟩
  | xd fs => obtain ⟨_, ⟨_, _, _, e, _⟩, _⟩ := x; exact ⟨_, e⟩
  | rng lo hi => obtain ⟨_, _, _, e⟩ := x; exact ⟨_, e⟩
  | frz ob u => obtain ⟨e, _⟩ := x; exact ⟨_, e⟩
  | tbl ps => exact ⟨_, (show h.get? a = some _ from x)⟩
  | met f y => exact ⟨_, (show h.get? a = some _ from x)⟩
  | ext φ => obtain ⟨_, ⟨_, e⟩, _⟩ := x; exact ⟨_, e⟩
section
variable {X : Cx} {pins : List (Addr × Obj)} {σ : St} {H : Hp} {s : Shared}
theorem Inv.sortedTo {m : Str → Option Value} {h' : Heap} {D : Addr} {its : List Value} {c : Nat} {xs : List V} (I : Inv X pins σ H s) (F0 : Fr X.base X.env.locals s.heap m) (F : Fr X.base X.env.locals h' m)
    (N : News X.base X.env.locals h' ((D, listOf its.toArray c) :: allNews X.base s.heap X.env.locals)) (lt : ∀ q ∈ allNews X.base s.heap X.env.locals, q.1 < D) (hv : Vals xs its) (hz : xs.length ≤ sizeLine) :
    Inv X pins σ (upd H D (.lst xs)) { s with heap := h' } ∧ H D = none := by
  obtain ⟨eD, nL, nb⟩ := N (D, listOf its.toArray c) (.head _)
  have oldD : s.heap.get? D = none := by
    cases q : s.heap.get? D with
    | none => rfl
    | some o => exact absurd (lt (D, o) (mem_allNews nL nb q)) (Nat.lt_irrefl _)
  have hD : H D = none := by
    cases q : H D with
    | none => rfl
    | some u =>
      obtain ⟨ob, e⟩ := (I.hok D u q).at
      rw [oldD] at e; cases e
  have keep : ∀ b o, b ≠ X.env.locals → s.heap.get? b = some o → h'.get? b = some o := fun b o hb e => by
    cases q : X.base.get? b with
    | some u =>
      have := I.bk b u q
      rw [e] at this; cases this
      exact F.keep b _ q
    | none => exact (N (b, o) (.tail _ (mem_allNews hb q e))).1
  have neD : ∀ b o, s.heap.get? b = some o → b ≠ D := fun b o e z => by rw [z, oldD] at e; cases e
  have neT : ∀ b u, H b = some u → b ≠ D := fun b u e z => by rw [z, hD] at e; cases e
  refine ⟨I.step (g' := s.gens) (t' := s.toks) (d' := s.drawn) (ch := []) (fun _ z => nomatch z) (fun b o hb _ _ e _ => keep b o hb e) (fun b o hb _ _ e _ => ⟨o.slots, keep b o hb e⟩) (fun b o _ e n => by rw [upd_ne (neD b o e)]; exact n) (fun b o _ e => ?_)
    (fun b ys e => by rw [upd_ne (neT b _ e)]; exact e) (fun b o u e => by rw [upd_ne (neT b _ e)]; exact e) (fun b ps e => ⟨#[], by rw [upd_ne (neT b _ e), e, Array.append_empty]⟩) (fun m' hm => ?_) (fun b u e => ?_) I.bare, hD⟩
  · by_cases hb : b = X.env.locals
    · obtain ⟨o', _, _, q, _⟩ := F.ns
      exact ⟨o', by rw [hb]; exact q⟩
    · exact ⟨o, keep b o hb e⟩
  · obtain ⟨o1, es1, ep1, e1, d1, k1, f1⟩ := hm
    obtain ⟨o2, es2, ep2, e2, d2, k2, f2⟩ := F0.ns
    rw [e1] at e2; cases e2
    rw [d1] at d2; cases d2
    obtain ⟨o3, es3, ep3, e3, d3, k3, f3⟩ := F.ns
    exact ⟨o3, es3, ep3, e3, d3, k3, fun name => (f3 name).trans ((f2 name).symm.trans (f1 name))⟩
  · by_cases hb : b = D
    · subst hb; rw [upd_same] at e; cases e
      exact ⟨hz, its, c, hv, eD⟩
    · rw [upd_ne hb] at e
      refine (I.hok b u e).stay (fun c v hc q => keep c v (fun z => ?_) q) (fun c q => by rw [upd_ne (neT c _ q)]; exact q) fun c ys q => by rw [upd_ne (neT c _ q)]; exact q
      rcases hc with rfl | hc
      · rw [z, I.free] at e; cases e
      · rw [z, I.free] at hc; cases hc
end
section
variable {prog : Program} {w : World} {A : Around} {E : Value → Shared → Prop} {s : Shared}
theorem sort_short {a : Addr} {its : List Value} {k : Nat} {P : PySem.Fin → Shared → Prop} (hx : s.heap.get? a = some (seqObj "list" its.toArray k)) (few : its.length < 2)
    (done : P (.done (.ret .none)) { s with heap := sortedHeap s.heap a its its.toArray }) : wpAny (model prog w) A (Builtin.«list.sort» ⟨[.ref a], []⟩) P E s := by
  have here : a < s.heap.objs.size := Heap.lt_size hx
  have line : its.length ≤ sizeLine := by rw [sizeLine_eq]; omega
  rw [list_sort_plain]
  obtain ⟨e1, at1⟩ : ∃ e1, (s.heap.update a (Obj.mapSeq fun _ => (#[] : Array Value))).get? a = some (seqObj "list" #[] e1) := ⟨_, get?_update_seq hx (fun _ => #[])⟩
  refine wpAny_bind (listItems_at hx rfl (wpAny_bind (listUpdate_at hx rfl (wpAny_bind (seqEpoch_at at1 rfl (wpAny_bind (wpAny_newTuple (wpAny_bind (wpAny_newList (wpAny_holding ?_) (Nat.zero_le _))) line))))
    (by rw [List.size_toArray]; exact line) (Nat.zero_le _))))
  have at2 : (((s.heap.update a (Obj.mapSeq fun _ => (#[] : Array Value))).push (seqObj "tuple" its.toArray 0)).push (seqObj "list" #[] 0)).get? a = some (seqObj "list" #[] e1) :=
    Heap.get?_push_of_some _ (Heap.get?_push_of_some _ at1)
  show wpAny (model prog w) A _ P E { s with heap := ((s.heap.update a (Obj.mapSeq fun _ => (#[] : Array Value))).push (seqObj "tuple" its.toArray 0)).push (seqObj "list" #[] 0) }
  have less : its.toArray.size < 2 := by rw [List.size_toArray]; exact few
  have snds : (arrOf (SortSt.mk' general' (its.toArray.zip its.toArray) #[] 7 none)).map (·.2) = its.toArray := by
    show (its.toArray.zip its.toArray).map (·.2) = its.toArray
    match its, few with
    | [], _ => simp
    | [_], _ => simp
  dsimp only
  rw [if_pos less, if_pos less]
  refine wpAny_bind (wpAny_pure ?_)
  rw [StateT.run_pure]
  refine wpAny_bind (wpAny_pure ?_)
  dsimp only
  refine wpAny_bind (seqEpoch_at at2 rfl (wpAny_bind (listUpdate_at at2 rfl ?_ (Nat.zero_le _) (by rw [snds, List.size_toArray]; omega))))
  simp only [bne_self_eq_false, Bool.false_eq_true, if_false]
  rw [snds]
  exact wpAny_pure done
theorem sorted_short {l : Addr} {its : List Value} {Q : Value → Shared → Prop} (hl : s.heap.IsList l its.toArray) (few : its.length < 2)
    (done : Q (.ref (s.heap.objs.size + 1)) { s with heap := sortedAll s.heap its its.toArray }) : wpAny (model prog w) A (call (.builtin "sorted") [.ref l]) Q E s := by
  have line : its.length ≤ sizeLine := by rw [sizeLine_eq]; omega
  refine Calls.call_function_entry kind_sorted plain_sorted entry_sorted (args_sorted1 _) ?_
  unfold Builtin.«sorted»
  refine wpAny_bind (m := checkCount "sorted" 1 1 _) (wpAny_pure (wpAny_bind (collect_list hl (wpAny_bind (wpAny_newList ?_ line)) line)))
  have sz : ((s.heap.push (seqObj "list" #[] 0)).update s.heap.objs.size (Obj.mapSeq (· ++ its.toArray))).objs.size = s.heap.objs.size + 1 := by rw [Heap.size_update, size_push']
  have atL : (((s.heap.push (seqObj "list" #[] 0)).update s.heap.objs.size (Obj.mapSeq (· ++ its.toArray))).push (seqObj "list" its.toArray 0)).get? (s.heap.objs.size + 1) = some (seqObj "list" its.toArray 0) := by
    rw [← sz]; exact Heap.get?_push_size _ rfl
  show wpAny _ _ _ _ _ { s with heap := ((s.heap.push (seqObj "list" #[] 0)).update s.heap.objs.size (Obj.mapSeq (· ++ its.toArray))).push (seqObj "list" its.toArray 0) }
  rw [sz]
  exact wpAny_bind (wpAny_holding (wpAny_call_entry slot_list_sort ⟨_, atL, rfl⟩ entry_list_sort (sort_short atL few ⟨_, rfl, wpAny_pure ⟨_, rfl, done⟩⟩) (args_list_sort _)))
end
section
variable {X : Cx}
theorem vals_refs : ∀ {ps : List (Addr × List Int)} {us : List Value}, Vals (ps.map fun a => V.ref a.1) us → us = ps.map fun a => Value.ref a.1
  | [], us, r => by cases r; rfl
  | a :: ps, us, r => by
    cases r with
    | cons x y => rw [vals_refs y]; cases x; rfl
def RowAt (h : Heap) (a : Addr) (r : List Int) : Prop := ∃ o items n, h.get? a = some o ∧ o.cls = .type "tuple" ∧ o.data = .seq items n ∧ Vals (r.map V.int) items.toList
theorem vals_lex {prog : Program} {w : World} {A : Around} {s : Shared} {b fin : Bool} {Q : Bool → Shared → Prop} : ∀ {r r' : List Int} {us us' : List Value} {i : Nat}, Vals (r.map V.int) us → Vals (r'.map V.int) us' → fin = decide (us.length < us'.length) → Q (lx r r') s →
    KatLex prog w A b fin Q (us.zip us') i s
  | [], [], us, us', i, ru, ru', hf, q => by cases ru; cases ru'; exact kat_nil (by rw [hf]; exact q)
  | [], _ :: _, us, us', i, ru, ru', hf, q => by
    cases ru; cases ru' with
    | cons _ _ => exact kat_nil (by rw [hf]; simpa [lx] using q)
  | _ :: _, [], us, us', i, ru, ru', hf, q => by
    cases ru'; cases ru with
    | cons _ _ => exact kat_nil (by rw [hf]; simpa [lx] using q)
  | x :: r, y :: r', us, us', i, ru, ru', hf, q => by
    cases ru with
    | cons rx ru =>
    cases ru' with
    | cons ry ru' =>
    obtain ⟨t, rfl⟩ := rx
    obtain ⟨t', rfl⟩ := ry
    refine kat_cons (wpAny_eqBool_int ?_)
    unfold lx at q
    by_cases e : x = y
    · subst e
      rw [if_pos rfl] at q
      rw [show (x == x) = true from by simp]
      exact kat_yes (vals_lex ru ru' (by rw [hf]; simp) q)
    · rw [if_neg e] at q
      rw [show (x == y) = false from by simpa using e]
      refine kat_no ?_
      cases (b && i == 0) with
      | true => exact oneLt_int q
      | false => exact kat_one _ _ (lt_int q)
theorem kat_tups {h : Heap} : ∀ {ps : List (Addr × List Int)}, (∀ a ∈ ps, RowAt h a.1 a.2 ∧ a.2 ≠ []) → ∃ fs, KatTups h (ps.map fun a => Value.ref a.1) fs ∧ fs.length = ps.length ∧ ∀ v ∈ fs, ∃ i t, v = Value.int i t
  | [], _ => ⟨[], KatTups.nil, rfl, fun _ z => nomatch z⟩
  | (a, r) :: ps, hp => by
    obtain ⟨fs, k, l, f⟩ := kat_tups fun a ha => hp a (.tail _ ha)
    obtain ⟨⟨o, items, n, ho, hc, hd, hv⟩, hn⟩ := hp (a, r) (.head _)
    match r, hn, hv with
    | x :: r, _, hv =>
      obtain ⟨u, hu, t, e⟩ := Vals.get (i := 0) hv rfl
      refine ⟨u :: fs, KatTups.cons ho hc hd (by rw [← hu]; simp) k, by simp [l], fun v hv => ?_⟩
      rcases List.mem_cons.mp hv with rfl | hv
      · exact ⟨x, t, e⟩
      · exact f v hv
theorem range_map {α : Type} (d : α) (l : List α) : (List.range l.length).map (fun i => l.getD i d) = l := by
  apply List.ext_getElem
  · simp
  · intro i h1 h2
    simp [List.getD, h2]
theorem vals_of_refs : ∀ (ps : List (Addr × List Int)), Vals (ps.map fun a => V.ref a.1) (ps.map fun a => Value.ref a.1)
  | [] => .nil
  | _ :: ps => .cons rfl (vals_of_refs ps)
theorem call_sortT : CallR X (.builtin "sorted") (fun xs H Q => ∃ p, ∃ ps : List (Addr × List Int), xs = [.ref p] ∧ SqL X.K H p (ps.map fun a => V.ref a.1) ∧ ps.length < 64 ∧ (∀ a ∈ ps, H a.1 = some (.tup (a.2.map V.int)) ∧ a.2 ≠ []) ∧
    ∀ l qs, H l = none → List.Perm qs ps → qs.Pairwise (fun a b => lx b.2 a.2 = false) → Q (.ref l) (upd H l (.lst (qs.map fun a => V.ref a.1)))) := by
  intro pins s σ H xs us Q I r h
  obtain ⟨p, ps, rfl, hq, h64, hrow, q⟩ := h
  obtain ⟨u, rfl, rx⟩ := vals1 r
  cases rx
  obtain ⟨its, r', pl, hz⟩ := I.list hq
  have ei := vals_refs r'
  subst ei
  have hlen : (ps.map fun a => Value.ref a.1).length = ps.length := by simp
  by_cases h2 : ps.length < 2
  · refine sorted_short pl.isList (by omega) ?_
    have sz : ((s.heap.push (seqObj "list" #[] 0)).update s.heap.objs.size (Obj.mapSeq (· ++ (ps.map fun a => Value.ref a.1).toArray))).objs.size = s.heap.objs.size + 1 := by rw [Heap.size_update, size_push']
    have kp : ∀ b o, s.heap.get? b = some o → (sortedAll s.heap (ps.map fun a => Value.ref a.1) (ps.map fun a => Value.ref a.1).toArray).get? b = some o := fun b o e => by
      have lb : b < s.heap.objs.size := Heap.lt_size e
      unfold sortedAll sortedHeap
      rw [Heap.get?_update_ne _ _ _ _ (Nat.ne_of_lt (Nat.lt_succ_of_lt lb))]
      refine Heap.get?_push_of_some _ (Heap.get?_push_of_some _ ?_)
      rw [Heap.get?_update_ne _ _ _ _ (Nat.ne_of_lt (Nat.lt_succ_of_lt lb))]
      refine Heap.get?_push_of_some _ ?_
      rw [Heap.get?_update_ne _ _ _ _ (Nat.ne_of_lt lb)]
      exact Heap.get?_push_of_some _ e
    obtain ⟨c, ec⟩ : ∃ c, (sortedAll s.heap (ps.map fun a => Value.ref a.1) (ps.map fun a => Value.ref a.1).toArray).get? (s.heap.objs.size + 1) = some (seqObj "list" (ps.map fun a => Value.ref a.1).toArray c) := by
      have e0 := Heap.get?_push_size ((s.heap.push (seqObj "list" #[] 0)).update s.heap.objs.size (Obj.mapSeq (· ++ (ps.map fun a => Value.ref a.1).toArray))) (o := seqObj "list" (ps.map fun a => Value.ref a.1).toArray 0) rfl
      rw [sz] at e0
      unfold sortedAll sortedHeap
      have e1 := get?_update_seq e0 (fun _ => (#[] : Array Value))
      exact ⟨_, get?_update_seq (Heap.get?_push_of_some _ (Heap.get?_push_of_some _ e1)) _⟩
    refine ⟨.ref (s.heap.objs.size + 1), _, I.laid (t' := s.toks) kp (Nat.le_succ _) (show ObjOk X.prog X.w _ _ _ (.lst (ps.map fun a => V.ref a.1)) from ⟨hz, _, c, r', ec⟩), rfl, q _ ps (I.hok.fresh (Nat.le_succ _)) (List.Perm.refl _) ?_⟩
    match ps, h2 with
    | [], _ => exact .nil
    | [_], _ => exact List.pairwise_singleton _ _
  · obtain ⟨m, F⟩ := I.fr
    refine kat_sorted F (news_all (g := X.base) (h := s.heap)) pl.isList (by omega) (by omega) fun D e1 h' F' N' lt => ?_
    have keep : ∀ b o, b ≠ X.env.locals → s.heap.get? b = some o → h'.get? b = some o := fun b o hb e => by
      cases q : X.base.get? b with
      | some u =>
        have := I.bk b u q
        rw [e] at this; cases this
        exact F'.keep b _ q
      | none => exact (N' (b, o) (.tail _ (mem_allNews hb q e))).1
    have rowAt : ∀ a ∈ ps, RowAt h' a.1 a.2 ∧ a.2 ≠ [] := fun a ha => by
      obtain ⟨ht, hn⟩ := hrow a ha
      obtain ⟨_, its, rv, o, e, c, n, d⟩ := I.hok a.1 _ ht
      refine ⟨⟨o, _, n, keep a.1 o (fun z => ?_) e, c, d, rv⟩, hn⟩
      rw [z, I.free] at ht; cases ht
    obtain ⟨fs, kt, lf, hf⟩ := kat_tups rowAt
    refine kat_kind (T := .type "int") kt (by omega) (fun v hv => ?_) (by decide) ?_
    · obtain ⟨i, t, rfl⟩ := hf v hv
      exact Looks.now
    have n1 : 1 ≤ (ps.map fun a => Value.ref a.1).length := by omega
    refine KOK.wp (c := cf fun i => rk (ps.map (·.2)) ((ps.map (·.2)).getD i [])) (fun i j C hi hj hC => ?_) (fun pp hp => ?_) _ (sort_ok (f := fun i => rk (ps.map (·.2)) ((ps.map (·.2)).getD i [])) n1)
    · have hi' : i < ps.length := by omega
      have hj' : j < ps.length := by omega
      obtain ⟨⟨o, items, n, ho, hc, hd, hv⟩, hn⟩ := rowAt ps[i] (List.getElem_mem hi')
      obtain ⟨⟨o', items', n', ho', hc', hd', hv'⟩, hn'⟩ := rowAt ps[j] (List.getElem_mem hj')
      unfold kas_ask
      have ei : (ps.map fun a => Value.ref a.1).getD i Value.none = .ref ps[i].1 := by simp [hi']
      have ej : (ps.map fun a => Value.ref a.1).getD j Value.none = .ref ps[j].1 := by simp [hj']
      rw [ei, ej]
      refine kat_lt ho hd ho' hd' (vals_lex hv hv' (by simp) ?_)
      have e : cf (fun i => rk (ps.map (·.2)) ((ps.map (·.2)).getD i [])) i j = lx ps[i].2 ps[j].2 := by
        unfold cf
        have e1 : (ps.map (·.2)).getD i [] = ps[i].2 := by simp [hi']
        have e2 : (ps.map (·.2)).getD j [] = ps[j].2 := by simp [hj']
        simp only [e1, e2]
        exact rk_lt (List.mem_map.mpr ⟨ps[i], List.getElem_mem hi', rfl⟩)
      rw [e] at hC
      exact hC
    · obtain ⟨pm, up⟩ := hp
      refine KasFin.intro F' N' (UpdF.head fun x hx => Nat.ne_of_lt (lt x hx)) fun h2' c F2 N2 => ?_
      have pl : pp.toList.Perm (List.range ps.length) := by
        have := pm.toList
        rw [hlen] at this
        simpa using this
      have eo : (pp.toList.map fun i => (ps.map fun a => Value.ref a.1).getD i Value.none) = (pp.toList.map fun i => ps.getD i (0, [])).map fun a => Value.ref a.1 := by
        rw [List.map_map]
        refine List.map_congr_left fun i hi => ?_
        have hi' : i < ps.length := List.mem_range.mp (pl.mem_iff.mp hi)
        simp [hi']
      have perm : (pp.toList.map fun i => ps.getD i (0, [])).Perm ps := by
        have := pl.map fun i => ps.getD i (0, [])
        rwa [range_map] at this
      rw [eo] at N2
      have hzz : ((pp.toList.map fun i => ps.getD i (0, [])).map fun a => V.ref a.1).length ≤ sizeLine := by
        rw [List.length_map, perm.length_eq, sizeLine_eq]; omega
      obtain ⟨I2, hD⟩ := I.sortedTo F F2 N2 lt (vals_of_refs _) hzz
      refine ⟨.ref D, _, I2, rfl, q D _ hD perm ?_⟩
      rw [List.pairwise_iff_getElem]
      intro i j hi hj hij
      simp only [List.length_map, Array.length_toList] at hi hj
      simp only [List.getElem_map, Array.getElem_toList]
      have hn : pp.size = ps.length := by rw [pm.size]; exact hlen
      have key := up i j (Nat.le_of_lt hij) (by omega)
      have a1 : pp[i] < ps.length := List.mem_range.mp (pl.mem_iff.mp (by simp))
      have a2 : pp[j] < ps.length := List.mem_range.mp (pl.mem_iff.mp (by simp))
      unfold g at'  at key
      simp only [hi, hj, getElem?_pos, Option.getD_some] at key
      have e1 : (ps.map (·.2)).getD pp[i] [] = ps[pp[i]].2 := by simp [a1]
      have e2 : (ps.map (·.2)).getD pp[j] [] = ps[pp[j]].2 := by simp [a2]
      rw [e1, e2] at key
      have e3 : ps.getD pp[i] (0, []) = ps[pp[i]] := by simp [a1]
      have e4 : ps.getD pp[j] (0, []) = ps[pp[j]] := by simp [a2]
      rw [e3, e4]
      have := rk_lt (rs := ps.map (·.2)) (a := ps[pp[j]].2) (b := ps[pp[i]].2) (List.mem_map.mpr ⟨_, List.getElem_mem a2, rfl⟩)
      rw [← this]
      simp only [decide_eq_false_iff_not]
      omega
end
end L2
set_option Elab.async false
set_option linter.all false
set_option maxRecDepth 100000
set_option maxHeartbeats 4000000
namespace L2
open PySem PySem.Spec PyProof.Rows
def notStar : Expr → Bool
  | .Starred _ _ => false
  | _ => true
theorem star_cons {e : Expr} {es : List Expr} {env : Env} (h : notStar e = true) : starEach (e :: es) env = (false, eval e env) :: starEach es env := by
  cases e <;> first | rfl | cases h
@[irreducible] def PA2 (X : Cx) (es : List Expr) (t : TA) : Prop := PA X es t
theorem pa_out {X : Cx} {es : List Expr} {t : TA} (h : PA2 X es t) : PA X es t := by unfold PA2 at h; exact h
theorem pa_in {X : Cx} {es : List Expr} {t : TA} (h : PA X es t) : PA2 X es t := by unfold PA2; exact h
theorem pa_n {X : Cx} : PA2 X [] tNil := pa_in pa_nil
theorem pa_c {X : Cx} {e : Expr} {es : List Expr} {te : TE} {t : TA} (ha : PE X e te) (hr : PA2 X es t) (hn : notStar e = true) : PA2 X (e :: es) (tCons te t) := pa_in (pa_cons ha (pa_out hr) (star_cons hn))
@[irreducible] def PSs2 (X : Cx) (es : List Stmt) (t : TS) : Prop := PSs X es t
theorem bl_out {X : Cx} {es : List Stmt} {t : TS} (h : PSs2 X es t) : PSs X es t := by unfold PSs2 at h; exact h
theorem bl_in {X : Cx} {es : List Stmt} {t : TS} (h : PSs X es t) : PSs2 X es t := by unfold PSs2; exact h
theorem bl_1 {X : Cx} {a : Stmt} {t : TS} (h : PS X a t) : PSs2 X [a] t := bl_in (pss_one h)
theorem bl_c {X : Cx} {a b : Stmt} {rest : List Stmt} {t u : TS} (h : PS X a t) (hr : PSs2 X (b :: rest) u) : PSs2 X (a :: b :: rest) (tSeq t u) := bl_in (pss_cons h (bl_out hr))
end L2
namespace L2
open PySem PySem.Spec PyProof.Rows
section
variable {K : PySem.W.Frag} {a : Addr} {xs : List V} {n : Nat} {caps : List Nat} {g : TG} {tc : TT} {te : TE} {σ : St} {H : Hp} {Qf : Addr → Hp → List V → Prop}
theorem comp_of {J : It} (Pv : Nat → St → List V → Hp → Prop) (len : Nat) (h0 : Pv 0 (tau0 n caps σ) [] H) (hn : len ≤ 1000) (hl : ∀ i τ acc H, Pv i τ acc H → acc.length ≤ i)
    (hgo : ∀ i τ acc H, i < len → Pv i τ acc H → J.go i H) (hstop : ∀ τ acc H, Pv len τ acc H → J.stop len H)
    (hs : ∀ i τ acc H (C : St → List V → Hp → Prop), i < len → Pv i τ acc H → (∀ τ acc H, Pv (i + 1) τ acc H → C τ acc H) → ∀ x H', J.yld i H x H' → g x τ H' fun τ2 H2 => tc τ2 H2 fun b H3 => if b = true then te τ2 H3 fun y H4 => C τ2 (acc ++ [y]) H4 else C τ2 acc H3)
    (hd : ∀ τ acc H, Pv len τ acc H → ∀ p, H p = none → Qf p H acc) :
    ∃ W : Nat → Nat → St → List V → Hp → Prop, (∃ m, W 0 m (tau0 n caps σ) [] H) ∧ ∀ i m τ acc H, W i m τ acc H →
      (J.stop i H ∧ acc.length ≤ sizeLine ∧ ∀ p, H p = none → Qf p H acc) ∨
      (J.go i H ∧ acc.length < sizeLine ∧ ∀ x H', J.yld i H x H' → g x τ H' fun τ2 H2 => tc τ2 H2 fun b H3 => if b = true then te τ2 H3 fun y H4 => ∃ m', m' < m ∧ W (i + 1) m' τ2 (acc ++ [y]) H4 else ∃ m', m' < m ∧ W (i + 1) m' τ2 acc H3) := by
  have line : 1001 ≤ sizeLine := by rw [sizeLine_eq]; decide
  refine ⟨fun i m τ acc H => m = len - i ∧ i ≤ len ∧ Pv i τ acc H, ⟨len, by simp, Nat.zero_le _, h0⟩, ?_⟩
  rintro i m τ acc H ⟨rfl, hi, p⟩
  have q := hl i τ acc H p
  by_cases hlt : i < len
  · exact .inr ⟨hgo i τ acc H hlt p, by omega, fun x H' y => hs i τ acc H (fun τ acc H => ∃ m', m' < len - i ∧ m' = len - (i + 1) ∧ i + 1 ≤ len ∧ Pv (i + 1) τ acc H) hlt p (fun τ acc H p' => ⟨len - (i + 1), by omega, rfl, hlt, p'⟩) x H' y⟩
  · have e : i = len := by omega
    subst e
    exact .inl ⟨hstop τ acc H p, by omega, hd τ acc H p⟩
theorem comp_list (Pv : Nat → St → List V → Hp → Prop) (h0 : Pv 0 (tau0 n caps σ) [] H) (hn : xs.length ≤ 1000) (hl : ∀ i τ acc H, Pv i τ acc H → acc.length ≤ i ∧ SqL K H a xs)
    (hs : ∀ i x τ acc H (C : St → List V → Hp → Prop), xs[i]? = some x → Pv i τ acc H → (∀ τ acc H, Pv (i + 1) τ acc H → C τ acc H) → g x τ H fun τ2 H2 => tc τ2 H2 fun b H3 => if b = true then te τ2 H3 fun y H4 => C τ2 (acc ++ [y]) H4 else C τ2 acc H3)
    (hd : ∀ τ acc H, Pv xs.length τ acc H → ∀ p, H p = none → Qf p H acc) :
    ∃ W : Nat → Nat → St → List V → Hp → Prop, (∃ m, W 0 m (tau0 n caps σ) [] H) ∧ ∀ i m τ acc H, W i m τ acc H →
      ((Itl K a).stop i H ∧ acc.length ≤ sizeLine ∧ ∀ p, H p = none → Qf p H acc) ∨
      ((Itl K a).go i H ∧ acc.length < sizeLine ∧ ∀ x H', (Itl K a).yld i H x H' → g x τ H' fun τ2 H2 => tc τ2 H2 fun b H3 => if b = true then te τ2 H3 fun y H4 => ∃ m', m' < m ∧ W (i + 1) m' τ2 (acc ++ [y]) H4 else ∃ m', m' < m ∧ W (i + 1) m' τ2 acc H3) :=
  comp_of (J := Itl K a) Pv xs.length h0 hn (fun i τ acc H p => (hl i τ acc H p).1) (fun i τ acc H hi p => ⟨xs, xs[i], (hl i τ acc H p).2, by simp [hi]⟩) (fun τ acc H p => ⟨xs, (hl _ τ acc H p).2, Nat.le_refl _⟩)
    (fun i τ acc H C hi p c x H' y => by obtain ⟨e, y⟩ := y; subst e; exact hs i x τ acc _ C (y xs (hl i τ acc _ p).2) p c) hd
end
end L2
namespace Sm
open PySem L2 SmSort
def But (p : Addr) (H H' : Hp) : Prop := ∀ b u, b ≠ p → H b = some u → H' b = some u
theorem But.refl (p : Addr) (H : Hp) : But p H H := fun _ _ _ h => h
theorem But.trans {p : Addr} {H H1 H2 : Hp} (a : But p H H1) (b : But p H1 H2) : But p H H2 := fun c u n h => b c u n (a c u n h)
theorem But.set {p : Addr} {H : Hp} {o : HO} : But p H (upd H p o) := fun b u n h => by rw [upd_ne n]; exact h
theorem But.new {p l : Addr} {H : Hp} {o : HO} (h : H l = none) : But p H (upd H l o) := fun b u n e => by rw [upd_ne (ne_of_none e h)]; exact e
def Purse (H : Hp) (p : Addr) : Prop := ∃ a b c : Int, H p = some (.lst [.int a, .int b, .int c])
def Go (p : Addr) (H H' : Hp) : Prop := But p H H' ∧ Purse H' p
theorem Go.trans {p : Addr} {H H1 H2 : Hp} (a : Go p H H1) (b : Go p H1 H2) : Go p H H2 := ⟨a.1.trans b.1, b.2⟩
theorem Go.refl {p : Addr} {H : Hp} (a : Purse H p) : Go p H H := ⟨But.refl p H, a⟩
theorem Purse.new {p l : Addr} {H : Hp} {o : HO} (a : Purse H p) (h : H l = none) : Purse (upd H l o) p := by
  obtain ⟨x, y, z, e⟩ := a
  exact ⟨x, y, z, by rw [upd_ne (ne_of_none e h)]; exact e⟩
theorem Purse.ne {p l : Addr} {H : Hp} (a : Purse H p) (h : H l = none) : l ≠ p := by
  obtain ⟨x, y, z, e⟩ := a
  exact (ne_of_none e h).symm
theorem Go.new {p l : Addr} {H H1 : Hp} {o : HO} (a : Go p H H1) (h : H1 l = none) : Go p H (upd H1 l o) := ⟨a.1.trans (But.new h), a.2.new h⟩
theorem Purse.tup {p t : Addr} {H : Hp} {xs : List V} (a : Purse H p) (h : H t = some (.tup xs)) : t ≠ p := by
  obtain ⟨x, y, z, e⟩ := a
  exact ne_of h e (by intro z; cases z)
def Tups (H H' : Hp) : Prop := ∀ b xs, H b = some (.tup xs) → H' b = some (.tup xs)
theorem Tups.refl (H : Hp) : Tups H H := fun _ _ h => h
theorem Tups.trans {H H1 H2 : Hp} (a : Tups H H1) (b : Tups H1 H2) : Tups H H2 := fun c u h => b c u (a c u h)
theorem Go.tups {p : Addr} {H H' : Hp} (a : Go p H H') (h : Purse H p) : Tups H H' := fun b xs e => a.1 b _ (h.tup e) e
theorem Tups.new {l : Addr} {H : Hp} {o : HO} (h : H l = none) : Tups H (upd H l o) := fun b u e => by rw [upd_ne (ne_of_none e h)]; exact e
theorem Tups.set {l : Addr} {H : Hp} {xs : List V} {o : HO} (h : H l = some (.lst xs)) : Tups H (upd H l o) := fun b u e => by rw [upd_ne (ne_of e h (by intro z; cases z))]; exact e
theorem Tups.same {H H' : Hp} (h : Same H H') : Tups H H' := fun b u e => h b _ e
structure M4 where
  lo : Int
  hi : Int
  t : Int
  m : Int
def M4.vs (r : M4) : List V := [.int r.lo, .int r.hi, .int r.t, .int r.m]
def apart (a b : M4) : Prop := a.lo ≠ b.lo ∧ a.lo ≠ b.hi ∧ a.hi ≠ b.lo ∧ a.hi ≠ b.hi
structure Good (w : Int) (ms : List M4) : Prop where
  few : ms.length ≤ 60
  each : ∀ r ∈ ms, 0 ≤ r.lo ∧ r.lo < r.hi ∧ r.hi < w ∧ 1 ≤ r.t ∧ r.t ≤ 1000000000 ∧ 1 ≤ r.m ∧ r.m ≤ 99
  order : ms.Pairwise fun a b => a.t < b.t ∨ (a.t = b.t ∧ a.lo < b.lo ∧ apart a b)
def RowsAt (H : Hp) (ps : List (Addr × M4)) : Prop := ∀ a ∈ ps, H a.1 = some (.tup a.2.vs)
structure BookAt (H : Hp) (b : Addr) (rooms : List Int) (tr tm : Addr) (ps : List (Addr × M4)) : Prop where
  book : H b = some (.tup [.ref tr, .ref tm])
  rooms : H tr = some (.tup (rooms.map V.int))
  meets : H tm = some (.tup (ps.map fun a => V.ref a.1))
  rows : RowsAt H ps
theorem RowsAt.tups {H H' : Hp} {ps : List (Addr × M4)} (a : RowsAt H ps) (t : Tups H H') : RowsAt H' ps := fun x hx => t _ _ (a x hx)
theorem BookAt.tups {H H' : Hp} {b tr tm : Addr} {rooms : List Int} {ps : List (Addr × M4)} (a : BookAt H b rooms tr tm ps) (t : Tups H H') : BookAt H' b rooms tr tm ps :=
  ⟨t _ _ a.book, t _ _ a.rooms, t _ _ a.meets, a.rows.tups t⟩
def spLaw (K : PySem.W.Frag) : Sp := fun vs H Q _ => ∃ (a : Addr) (ns : List Int), vs = [.ref a] ∧ SqL K H a (ns.map V.int) ∧ ns.length ≤ 63 ∧ ∀ H', Q (.bl true) H'
def spPurse (K : PySem.W.Frag) : Sp := fun vs H Q _ => ∃ (a : Addr) (ns : List Int) (k : Nat), vs = [.ref a, .int k] ∧ SqL K H a (ns.map V.int) ∧ k < 1000 ∧ ∀ p H', H p = none → Purse H' p → Same H H' → Q (.ref p) H'
def spTake : Sp := fun vs H Q _ => ∃ p n, vs = [.ref p, .int n] ∧ 0 < n ∧ n < 2 ^ 200 ∧ Purse H p ∧ ∀ d H', 0 ≤ d → d < n → Go p H H' → Q (.int d) H'
def spFar : Sp := fun vs H Q _ => ∃ p, vs = [.ref p] ∧ Purse H p ∧ ∀ d H', 0 ≤ d → d ≤ 1000000000 → Go p H H' → Q (.int d) H'
def spRooms : Sp := fun vs H Q _ => ∃ p, ∃ n : Nat, vs = [.ref p, .int n] ∧ n ≤ 1000 ∧ Purse H p ∧ ∀ (t : Addr) (rooms : List Int) (H' : Hp), Go p H H' → H' t = some (.tup (rooms.map V.int)) → rooms.length = n → (∀ r ∈ rooms, (0 : Int) ≤ r ∧ r ≤ 99) → Q (.ref t) H'
def spStep : Sp := fun vs H Q _ => ∃ p, vs = [.ref p] ∧ Purse H p ∧ ∀ d H', 0 ≤ d → d ≤ 16000000 → Go p H H' → Q (.int d) H'
def spMeetings : Sp := fun vs H Q _ => ∃ p, ∃ w : Int, ∃ n : Nat, vs = [.ref p, .int w, .int n] ∧ n ≤ 60 ∧ w < 1000 ∧ (n = 0 ∨ 2 ≤ w) ∧ Purse H p ∧
  ∀ (t : Addr) (ps : List (Addr × M4)) (H' : Hp), Go p H H' → H' t = some (.tup (ps.map fun a => V.ref a.1)) → RowsAt H' ps → Good w (ps.map (·.2)) → ps.length = n → Q (.ref t) H'
def spBook : Sp := fun vs H Q _ => ∃ p, ∃ a : Int, ∃ n : Nat, vs = [.ref p, .int a, .int n] ∧ 1 ≤ a ∧ a ≤ 100 ∧ n ≤ 60 ∧ Purse H p ∧
  ∀ (b : Addr) (rooms : List Int) (tr tm : Addr) (ps : List (Addr × M4)) (H' : Hp), Go p H H' → BookAt H' b rooms tr tm ps → 1 ≤ rooms.length → (rooms.length : Int) ≤ a → (∀ r ∈ rooms, (0 : Int) ≤ r ∧ r ≤ 99) → Good rooms.length (ps.map (·.2)) → ps.length ≤ n → Q (.ref b) H'
theorem iteD {c A B : Prop} [Decidable c] (h1 : c → A) (h2 : ¬ c → B) : if decide c = true then A else B := by
  by_cases h : c
  · rw [if_pos (decide_eq_true h)]; exact h1 h
  · rw [if_neg (by simpa using h)]; exact h2 h
theorem iteB0 {c : Bool} {A B : Prop} (hc : c = false) (h : B) : if c = true then A else B := by
  rw [if_neg (by rw [hc]; exact Bool.false_ne_true)]; exact h
theorem iteB1 {c : Bool} {A B : Prop} (hc : c = true) (h : A) : if c = true then A else B := by
  rw [if_pos hc]; exact h
theorem iteB {c : Bool} {A B : Prop} (h1 : c = true → A) (h2 : c = false → B) : if c = true then A else B := by
  cases c with
  | true => exact h1 rfl
  | false => exact h2 rfl
theorem same_new {H : Hp} {p : Addr} {o : HO} (h : H p = none) : Same H (upd H p o) := fun b u e => by
  rw [upd_ne (ne_of_none e h)]; exact e
def M4.row (r : M4) : List Int := [r.t, r.lo, r.hi, r.m]
structure FOk (w when' : Int) (bs : List Int) (fs : List (Addr × M4)) : Prop where
  each : ∀ a ∈ fs, 0 ≤ a.2.lo ∧ a.2.lo < a.2.hi ∧ a.2.hi < w ∧ 1 ≤ a.2.t ∧ a.2.t ≤ when' ∧ 1 ≤ a.2.m ∧ a.2.m ≤ 99
  pw : fs.Pairwise fun a b => a.2.t = b.2.t → apart a.2 b.2
  bz : ∀ a ∈ fs, a.2.t = when' → a.2.lo ∈ bs ∧ a.2.hi ∈ bs
theorem FOk.step {w wh gap one other m : Int} {bs bs' : List Int} {fs : List (Addr × M4)} {a : Addr} (F : FOk w wh bs fs) (h1 : 1 ≤ wh) (g0 : 0 ≤ gap) (o0 : 0 ≤ one) (o1 : one < w) (p0 : 0 ≤ other) (p1 : other < w) (ne : one ≠ other)
    (m0 : 1 ≤ m) (m1 : m ≤ 99) (hg : gap = 0 → one ∉ bs ∧ other ∉ bs) (hb : ∀ x ∈ bs, gap = 0 → x ∈ bs') (hb1 : one ∈ bs') (hb2 : other ∈ bs') :
    FOk w (wh + gap) bs' (fs ++ [(a, ⟨if other < one then other else one, if other > one then other else one, wh + gap, m⟩)]) := by
  refine ⟨fun b hb => ?_, ?_, fun b hm e => ?_⟩
  · rcases List.mem_append.mp hb with h | h
    · obtain ⟨a1, a2, a3, a4, a5, a6, a7⟩ := F.each b h
      exact ⟨a1, a2, a3, a4, by omega, a6, a7⟩
    · cases List.mem_singleton.mp h
      by_cases c : other < one
      · rw [if_pos c, if_neg (by omega)]; exact ⟨p0, c, o1, by show 1 ≤ wh + gap; omega, Int.le_refl _, m0, m1⟩
      · rw [if_neg c, if_pos (by omega)]; exact ⟨o0, by show one < other; omega, p1, by show 1 ≤ wh + gap; omega, Int.le_refl _, m0, m1⟩
  · rw [List.pairwise_append]
    refine ⟨F.pw, List.pairwise_singleton _ _, fun b hb c hc e => ?_⟩
    cases List.mem_singleton.mp hc
    have e' : b.2.t = wh + gap := e
    obtain ⟨a1, a2, a3, a4, a5, a6, a7⟩ := F.each b hb
    have g : gap = 0 := by omega
    obtain ⟨x1, x2⟩ := F.bz b hb (by omega)
    obtain ⟨n1, n2⟩ := hg g
    have q1 : b.2.lo ≠ one := fun z => n1 (z ▸ x1)
    have q2 : b.2.lo ≠ other := fun z => n2 (z ▸ x1)
    have q3 : b.2.hi ≠ one := fun z => n1 (z ▸ x2)
    have q4 : b.2.hi ≠ other := fun z => n2 (z ▸ x2)
    unfold apart
    dsimp only
    by_cases c : other < one
    · rw [if_pos c, if_neg (by omega)]; exact ⟨q2, q1, q4, q3⟩
    · rw [if_neg c, if_pos (by omega)]; exact ⟨q1, q2, q3, q4⟩
  · rcases List.mem_append.mp hm with h | h
    · obtain ⟨a1, a2, a3, a4, a5, a6, a7⟩ := F.each b h
      obtain ⟨x1, x2⟩ := F.bz b h (by omega)
      exact ⟨hb _ x1 (by omega), hb _ x2 (by omega)⟩
    · cases List.mem_singleton.mp h
      by_cases c : other < one
      · rw [if_pos c, if_neg (by omega)]; exact ⟨hb2, hb1⟩
      · rw [if_neg c, if_pos (by omega)]; exact ⟨hb1, hb2⟩
def M4.late (l : Int) (r : M4) : M4 := ⟨r.lo, r.hi, r.t + l, r.m⟩
theorem FOk.good {w wh l : Int} {bs : List Int} {fs qs : List (Addr × M4)} (F : FOk w wh bs fs) (n : fs.length ≤ 60) (l0 : 0 ≤ l) (l1 : fs ≠ [] → wh + l ≤ 1000000000) (p : qs.Perm fs) (s : qs.Pairwise fun a b => lx b.2.row a.2.row = false) :
    Good w (qs.map fun a => a.2.late l) := by
  refine ⟨by rw [List.length_map, p.length_eq]; exact n, fun r hr => ?_, ?_⟩
  · obtain ⟨a, ha, rfl⟩ := List.mem_map.mp hr
    have hm := p.mem_iff.mp ha
    obtain ⟨a1, a2, a3, a4, a5, a6, a7⟩ := F.each a hm
    have := l1 (List.ne_nil_of_mem hm)
    unfold M4.late
    exact ⟨a1, a2, a3, by show 1 ≤ a.2.t + l; omega, by show a.2.t + l ≤ 1000000000; omega, a6, a7⟩
  · rw [List.pairwise_map]
    have ap : qs.Pairwise fun a b => a.2.t = b.2.t → apart a.2 b.2 := (List.Perm.pairwise_iff (fun {x y} h e => by
      obtain ⟨a1, a2, a3, a4⟩ := h e.symm
      exact ⟨a1.symm, a3.symm, a2.symm, a4.symm⟩) p).mpr F.pw
    refine (s.and ap).imp fun {a b} ⟨h1, h2⟩ => ?_
    unfold M4.late
    dsimp only
    unfold M4.row lx at h1
    by_cases e : a.2.t = b.2.t
    · have q := h2 e
      rw [if_pos e.symm] at h1
      unfold lx at h1
      rw [if_neg fun z => q.1 z.symm] at h1
      simp only [decide_eq_false_iff_not] at h1
      refine .inr ⟨by omega, ?_, q⟩
      have := q.1
      omega
    · rw [if_neg fun z => e z.symm] at h1
      simp only [decide_eq_false_iff_not] at h1
      exact .inl (by omega)
def toM4 (r : List Int) : M4 := ⟨r.getD 1 0, r.getD 2 0, r.getD 0 0, r.getD 3 0⟩
theorem rows_back {fs : List (Addr × M4)} {qs : List (Addr × List Int)} (p : qs.Perm (fs.map fun a => (a.1, a.2.row))) (s : qs.Pairwise fun a b => lx b.2 a.2 = false) :
    ∃ rs : List (Addr × M4), rs.Perm fs ∧ (rs.Pairwise fun a b => lx b.2.row a.2.row = false) ∧ qs = rs.map fun a => (a.1, a.2.row) := by
  have e : qs = (qs.map fun a => (a.1, toM4 a.2)).map fun a => (a.1, a.2.row) := by
    rw [List.map_map]
    refine (List.map_id qs).symm.trans (List.map_congr_left fun x hx => ?_)
    obtain ⟨a, _, rfl⟩ := List.mem_map.mp (p.mem_iff.mp hx)
    rfl
  refine ⟨qs.map fun a => (a.1, toM4 a.2), ?_, ?_, e⟩
  · have := p.map fun a => (a.1, toM4 a.2)
    rw [List.map_map] at this
    refine this.trans (.of_eq ?_)
    refine (List.map_congr_left fun x _ => ?_).trans (List.map_id fs)
    rfl
  · rw [e, List.pairwise_map] at s
    exact s
theorem flat_ints (bs : List Int) : (bs.map V.int).all flatV = true := by
  rw [List.all_eq_true]
  intro x hx
  obtain ⟨b, _, rfl⟩ := List.mem_map.mp hx
  rfl
theorem inV_ints {x : Int} {bs : List Int} : inV (.int x) (bs.map V.int) = decide (x ∈ bs) := by
  unfold inV
  induction bs with
  | nil => rfl
  | cons b bs ih =>
    rw [List.map_cons, List.any_cons, ih]
    by_cases h : x = b
    · subst h; simp [eqV]
    · have h' : ¬ b = x := fun z => h z.symm
      simp [eqV, h, h']
def PvM (p lf : Addr) (w : Int) (n : Nat) (H : Hp) (i : Nat) (σ : St) (H3 : Hp) : Prop :=
  ∃ v6 v7 v8 v9 v10 wh lb bs, ∃ fs : List (Addr × M4), σ = [some (.ref p), some (.int w), some (.int n), some (.ref lf), some (.int wh), some (.ref lb), v6, v7, v8, v9, v10, none] ∧
    H3 lf = some (.lst (fs.map fun a => V.ref a.1)) ∧ H3 lb = some (.lst (List.map V.int bs)) ∧ lb ≠ lf ∧ lb ≠ p ∧ (∀ a ∈ fs, H3 a.1 = some (.tup (a.2.row.map V.int))) ∧ FOk w wh bs fs ∧ fs.length = i ∧ bs.length ≤ 2 * i ∧ 1 ≤ wh ∧ wh ≤ 10000000 + 16000000 * i ∧ Go p H H3
theorem PvM.step {p lf lb t : Addr} {w wh gap one other m : Int} {n i : Nat} {H Hx : Hp} {bs bs' : List Int} {fs : List (Addr × M4)} {v6 v7 v8 v9 v10 : Option V} (npf : lf ≠ p) (hlf : H lf = none)
    (F : FOk w wh bs fs) (lenf : fs.length = i) (lenb : bs'.length ≤ 2 * i + 2) (wh1 : 1 ≤ wh) (wh2 : wh ≤ 10000000 + 16000000 * i) (hf : Hx lf = some (.lst (fs.map fun a => V.ref a.1))) (hb : Hx lb = some (.lst (List.map V.int bs'))) (nb : lb ≠ lf) (nbp : lb ≠ p)
    (rows : ∀ a ∈ fs, Hx a.1 = some (.tup (a.2.row.map V.int))) (go : Go p H Hx) (ht : Hx t = none)
    (g0 : 0 ≤ gap) (g1 : gap ≤ 16000000) (o0 : 0 ≤ one) (o1 : one < w) (p0 : 0 ≤ other) (p1 : other < w) (ne : one ≠ other) (m0 : 1 ≤ m) (m1 : m ≤ 99) (hg : gap = 0 → one ∉ bs ∧ other ∉ bs) (hb0 : ∀ x ∈ bs, gap = 0 → x ∈ bs') (hb1 : one ∈ bs') (hb2 : other ∈ bs') :
    PvM p lf w n H (i + 1) [some (.ref p), some (.int w), some (.int n), some (.ref lf), some (.int (wh + gap)), some (.ref lb), v6, v7, v8, v9, v10, none]
      (upd (upd Hx t (.tup [.int (wh + gap), .int (if other < one then other else one), .int (if other > one then other else one), .int m])) lf (.lst ((fs.map fun a => V.ref a.1) ++ [.ref t]))) := by
  have ntf : t ≠ lf := (ne_of_none hf ht).symm
  refine ⟨v6, v7, v8, v9, v10, wh + gap, lb, bs', fs ++ [(t, ⟨if other < one then other else one, if other > one then other else one, wh + gap, m⟩)], rfl, by rw [upd_same, List.map_append]; rfl, ?_, nb, nbp, fun a ha => ?_, F.step wh1 g0 o0 o1 p0 p1 ne m0 m1 hg hb0 hb1 hb2, by rw [List.length_append, lenf]; rfl, by omega, by omega, by omega, fun b u nb e => ?_, ?_⟩
  · rw [upd_ne nb, upd_ne (ne_of_none hb ht)]; exact hb
  · rcases List.mem_append.mp ha with h | h
    · have := rows a h
      rw [upd_ne (ne_of this hf (by intro z; cases z)), upd_ne (ne_of_none this ht)]; exact this
    · cases List.mem_singleton.mp h
      rw [upd_ne ntf, upd_same]; rfl
  · rw [upd_ne (ne_of_none e hlf), upd_ne (ne_of_none (go.1 b u nb e) ht)]; exact go.1 b u nb e
  · have := go.2.new (o := .tup [.int (wh + gap), .int (if other < one then other else one), .int (if other > one then other else one), .int m]) ht
    obtain ⟨x, y, z, e⟩ := this
    exact ⟨x, y, z, by rw [upd_ne npf.symm]; exact e⟩
theorem oth_ok {one x w : Int} (o0 : 0 ≤ one) (o1 : one < w) (x0 : 0 ≤ x) (x1 : x < w - 1) : 0 ≤ (one + 1 + x) % w ∧ (one + 1 + x) % w < w ∧ one ≠ (one + 1 + x) % w := by
  refine ⟨Int.emod_nonneg _ (by omega), Int.emod_lt_of_pos _ (by omega), ?_⟩
  by_cases h : one + 1 + x < w
  · rw [Int.emod_eq_of_lt (by omega) h]; omega
  · have e : (one + 1 + x) % w = (one + 1 + x - w) % w := by
      have : one + 1 + x = (one + 1 + x - w) + w := by omega
      rw [this, Int.add_emod_right]; congr 1; omega
    rw [e, Int.emod_eq_of_lt (by omega) (by omega)]; omega
theorem Go.same {p : Addr} {H H1 H2 : Hp} (a : Go p H H1) (s : Same H1 H2) : Go p H H2 := ⟨fun b u n e => s b u (a.1 b u n e), by obtain ⟨x, y, z, e⟩ := a.2; exact ⟨x, y, z, s _ _ e⟩⟩
theorem map_get {α : Type} {f : α → V} {l : List α} {i : Nat} {x : V} (h : (l.map f)[i]? = some x) : ∃ r, l[i]? = some r ∧ x = f r := by
  rw [List.getElem?_map] at h
  cases e : l[i]? with
  | none => rw [e] at h; cases h
  | some r => rw [e] at h; exact ⟨r, rfl, (Option.some.inj h).symm⟩
theorem take_snoc {α : Type} {l : List α} {i : Nat} {r : α} (h : l[i]? = some r) : l.take (i + 1) = l.take i ++ [r] := by
  rw [List.take_add_one, h]; rfl
theorem SqL.but {K : PySem.W.Frag} {p a : Addr} {H H' : Hp} {xs : List V} (h : SqL K H a xs) (hp : H p = none) (s : But p H H') : SqL K H' a xs := by
  rcases h with (h | ⟨o, h⟩) | h
  · exact .inl (.inl (s _ _ (ne_of_none h hp) h))
  · exact .inl (.inr ⟨o, s _ _ (ne_of_none h hp) h⟩)
  · exact .inr h
theorem But.same {p : Addr} {H H1 H2 : Hp} (hp : H p = none) (s : Same H H1) (g : But p H1 H2) : Same H H2 := fun b u e => g b u (ne_of_none e hp) (s b u e)
theorem Same.put {l : Addr} {H H' : Hp} {o : HO} (h : H l = none) (s : Same H H') : Same H (upd H' l o) := fun b u e => by rw [upd_ne (ne_of_none e h)]; exact s b u e
theorem BookAt.same {H H' : Hp} {b tr tm : Addr} {rooms : List Int} {ps : List (Addr × M4)} (a : BookAt H b rooms tr tm ps) (t : Same H H') : BookAt H' b rooms tr tm ps := a.tups (Tups.same t)
theorem tyS_lst {H : Hp} {l : Addr} {xs : List V} (h : H l = some (.lst xs)) : tyS H (.ref l) = some "list" := by simp only [tyS, h]
def spWhole : Sp := fun vs H Q _ => ∃ x t, vs = [x] ∧ tyS H x = some t ∧ Q (.bl (t == "int")) H
def inB (lo hi : Int) : V → Bool
  | .int i => decide (lo ≤ i) && decide (i ≤ hi)
  | _ => false
def spWithin : Sp := fun vs H Q _ => ∃ x t lo hi, vs = [x, .int lo, .int hi] ∧ tyS H x = some t ∧ Q (.bl (inB lo hi x)) H
theorem tyS_int {H : Hp} {x : V} (h : tyS H x = some "int") : ∃ i, x = .int i := by
  cases x with
  | int i => exact ⟨i, rfl⟩
  | ref a =>
    unfold tyS at h
    dsimp only at h
    split at h <;> simp at h
  | _ => simp [tyS] at h
theorem inB_no {H : Hp} {x : V} {t : String} {lo hi : Int} (h : tyS H x = some t) (n : ¬ t = "int") : inB lo hi x = false := by
  cases x with
  | int i => simp [tyS] at h; exact absurd h.symm n
  | _ => rfl
def hasW (w : Int) (r : M4) : Bool := decide (r.lo = w) || decide (r.hi = w)
def numsTo (ms : List M4) (w : Int) : Nat → List Int
  | 0 => []
  | i + 1 => numsTo ms w i ++ (if (ms[i]?).any (hasW w) = true then [(i : Int)] else [])
end Sm
namespace Sm
open PySem L2 SmSort
def spTimeOf : Sp := fun vs H Q _ => ∃ p b j rooms tr tm ps, vs = [.ref p, .ref b, .int j] ∧ (j = 0 ∨ j = 1) ∧ BookAt H b rooms tr tm ps ∧ Good rooms.length (ps.map (·.2)) ∧ Purse H p ∧ ∀ d H', 0 ≤ d → d ≤ 1000000000 → Go p H H' → Q (.int d) H'
def spLetter : Sp := fun vs H Q _ => ∃ p b rooms tr tm ps, vs = [.ref p, .ref b] ∧ BookAt H b rooms tr tm ps ∧ 1 ≤ rooms.length ∧ rooms.length ≤ 1000 ∧ Good rooms.length (ps.map (·.2)) ∧ Purse H p ∧
  ∀ t (s a w z : Int) H', Go p H H' → H' t = some (.tup [.int s, .int a, .int w, .int z]) → 0 ≤ s → s < rooms.length → 0 ≤ w → w < rooms.length → 0 ≤ a → a ≤ 1000000000 → 0 ≤ z → z ≤ 1000000000 → Q (.ref t) H'
theorem Good.len {w : Int} {ps : List (Addr × M4)} (g : Good w (ps.map (·.2))) : ps.length ≤ 60 := by simpa using g.few
theorem Good.at {w : Int} {ps : List (Addr × M4)} (g : Good w (ps.map (·.2))) {r : Addr × M4} (h : r ∈ ps) : 0 ≤ r.2.lo ∧ r.2.lo < r.2.hi ∧ r.2.hi < w ∧ 1 ≤ r.2.t ∧ r.2.t ≤ 1000000000 ∧ 1 ≤ r.2.m ∧ r.2.m ≤ 99 := g.each _ (List.mem_map.mpr ⟨r, h, rfl⟩)
end Sm
namespace L2
open PySem PySem.Spec PyProof.Rows
end L2
set_option Elab.async false
set_option linter.all false
namespace Sm
open PySem L2 SmSort
theorem us1 {fd : FuncData} {ps : List Str} {us : List Value} (h : us.length = 1) (q : ∀ a, bindArgs fd ⟨[a], []⟩ = pure (ps.zip [a])) : bindArgs fd ⟨us, []⟩ = pure (ps.zip us) := match us, h with | [a], _ => q a
theorem us2 {fd : FuncData} {ps : List Str} {us : List Value} (h : us.length = 2) (q : ∀ a b, bindArgs fd ⟨[a, b], []⟩ = pure (ps.zip [a, b])) : bindArgs fd ⟨us, []⟩ = pure (ps.zip us) := match us, h with | [a, b], _ => q a b
theorem us3 {fd : FuncData} {ps : List Str} {us : List Value} (h : us.length = 3) (q : ∀ a b c, bindArgs fd ⟨[a, b, c], []⟩ = pure (ps.zip [a, b, c])) : bindArgs fd ⟨us, []⟩ = pure (ps.zip us) := match us, h with | [a, b, c], _ => q a b c
theorem us5 {fd : FuncData} {ps : List Str} {us : List Value} (h : us.length = 5) (q : ∀ a b c d e, bindArgs fd ⟨[a, b, c, d, e], []⟩ = pure (ps.zip [a, b, c, d, e])) : bindArgs fd ⟨us, []⟩ = pure (ps.zip us) := match us, h with | [a, b, c, d, e], _ => q a b c d e
theorem un4 {K : PySem.W.Frag} {H : Hp} {a : Addr} {v0 v1 v2 v3 : V} {Q : V → V → V → V → Prop} (h : H a = some (.tup [v0, v1, v2, v3])) (q : Q v0 v1 v2 v3) : ∃ a' xs, V.ref a = .ref a' ∧ SqT K H a' xs ∧ xs.length = 4 ∧ ∃ w0 r0, xs = w0 :: r0 ∧ ∃ w1 r1, r0 = w1 :: r1 ∧ ∃ w2 r2, r1 = w2 :: r2 ∧ ∃ w3 r3, r2 = w3 :: r3 ∧ r3 = [] ∧ Q w0 w1 w2 w3 := ⟨a, _, rfl, SqT.of h, rfl, _, _, rfl, _, _, rfl, _, _, rfl, _, _, rfl, rfl, q⟩
end Sm
set_option Elab.async false
set_option linter.all false
set_option maxRecDepth 100000
set_option maxHeartbeats 4000000
namespace L2
open PySem PySem.Spec PyProof.Rows
section
variable {X : Cx}
def oV : Option Int → V
  | none => .non
  | some i => .int i
theorem all_range {n : Nat} {e : Nat → Bool} {b : Bool} (h : (∀ j, j < n → e j = true) ↔ b = true) : (List.range n).all e = b := by
  cases b with
  | true => rw [List.all_eq_true]; intro j hj; exact h.mpr rfl j (List.mem_range.mp hj)
  | false =>
    cases c : (List.range n).all e with
    | false => rfl
    | true => exact absurd (h.mp fun j hj => List.all_eq_true.mp c j (List.mem_range.mpr hj)) (by simp)
end
end L2
namespace Sm
open PySem L2 SmSort
def Th (H : Hp) (x : V) (r : Option (List V)) : Prop :=
  (∃ t, tyS H x = some t ∧ t ≠ "tuple" ∧ r = none) ∨ (∃ a xs, x = .ref a ∧ H a = some (.tup xs) ∧ (∀ e ∈ xs, ∃ t, tyS H e = some t) ∧ r = some xs)
def isLet (w : Int) : Option (List V) → Bool
  | some [a, b, c, d] => inB 0 (w - 1) a && (inB 0 1000000000 b && (inB 0 (w - 1) c && inB 0 1000000000 d))
  | _ => false
theorem tyS_tup {H : Hp} {l : Addr} {xs : List V} (h : H l = some (.tup xs)) : tyS H (.ref l) = some "tuple" := by simp only [tyS, h]
theorem tyS_dct {H : Hp} {l : Addr} {xs : List (Key × V)} (h : H l = some (.dK xs)) : tyS H (.ref l) = some "dict" := by simp only [tyS, h]
theorem tyS_same {H H' : Hp} {x : V} {t : String} (s : Same H H') (h : tyS H x = some t) : tyS H' x = some t := by
  cases x with
  | ref a =>
    unfold tyS at h ⊢
    dsimp only at h ⊢
    cases e : H a with
    | none => rw [e] at h; simp at h
    | some o => rw [e] at h; rw [s a o e]; exact h
  | _ => exact h
end Sm
set_option Elab.async false
set_option linter.all false
set_option maxRecDepth 100000
set_option maxHeartbeats 4000000
namespace L2
open PySem PySem.Spec PyProof.Rows
section
variable {X : Cx} {e : Expr} {te : TE} {pos p2 p3 p4 : Pos} {j : Nat}
end
end L2
set_option Elab.async false
set_option linter.all false
set_option maxRecDepth 100000
set_option maxHeartbeats 4000000
namespace Sm
open PySem L2 SmSort
abbrev Fn := Nat → Option Int
def put (f : Fn) (k : Nat) (x : Option Int) : Fn := fun i => if i = k then x else f i
theorem put_same {f : Fn} {k : Nat} {x : Option Int} : put f k x k = x := by unfold put; rw [if_pos rfl]
theorem put_ne {f : Fn} {k i : Nat} {x : Option Int} (h : i ≠ k) : put f k x i = f i := by unfold put; rw [if_neg h]
def lone (k : Nat) (x : Int) : Fn := fun i => if i = k then some x else none
def below (o : Option Int) (t : Int) : Bool := match o with
  | some y => decide (y < t)
  | none => false
def from' (o : Option Int) (t : Int) : Bool := match o with
  | some y => decide (t ≤ y)
  | none => false
theorem below_iff {o : Option Int} {t : Int} : below o t = true ↔ ∃ y, o = some y ∧ y < t := by
  cases o <;> simp [below]
def upto (o : Option Int) (t : Int) : Bool := match o with
  | some y => decide (y ≤ t)
  | none => false
theorem upto_iff {o : Option Int} {t : Int} : upto o t = true ↔ ∃ y, o = some y ∧ y ≤ t := by
  cases o <;> simp [upto]
structure W3 where
  g : Nat
  o : Nat
  t : Int
def two (m : M4) : List W3 := [⟨m.lo.toNat, m.hi.toNat, m.t⟩, ⟨m.hi.toNat, m.lo.toNat, m.t⟩]
def ways2 (ms : List M4) : List W3 := ms.flatMap two
def fstep (st : Fn) (x : W3) : Fn := if st x.o = none ∧ below (st x.g) x.t = true then put st x.o (some x.t) else st
def bstep (lf : Fn) (x : W3) : Fn := if lf x.g = none ∧ from' (lf x.o) x.t = true then put lf x.g (some (x.t - 1)) else lf
def fwd (ms : List M4) (st : Fn) : Fn := (ways2 ms).foldl fstep st
def bwd (ms : List M4) (wish : Nat) (last : Int) : Fn := (ways2 ms).reverse.foldl bstep (lone wish last)
theorem fstep_some {st : Fn} {x : W3} {i : Nat} {y : Int} (h : st i = some y) : fstep st x i = some y := by
  unfold fstep
  split
  · rename_i c
    by_cases e : i = x.o
    · rw [e, c.1] at h; cases h
    · rw [put_ne e]; exact h
  · exact h
def Ord (t : Int) (ms : List M4) : Prop := (∀ m ∈ ms, t ≤ m.t ∧ m.lo.toNat ≠ m.hi.toNat) ∧ ms.Pairwise fun a b => a.t ≤ b.t
theorem Good.ord {w : Int} {ms : List M4} (g : Good w ms) : Ord 1 ms := by
  refine ⟨fun m hm => ?_, g.order.imp fun h => ?_⟩
  · obtain ⟨a1, a2, a3, a4, _⟩ := g.each m hm
    exact ⟨a4, by omega⟩
  · rcases h with h | h
    · omega
    · omega
def rep (n : Nat) (f : Fn) : List (Option Int) := (List.range n).map f
theorem rep_len (n : Nat) (f : Fn) : (rep n f).length = n := by simp [rep]
structure W4 where
  n : Nat
  w : W3
def W4.vs (x : W4) : List V := [.int x.n, .int x.w.g, .int x.w.o, .int x.w.t]
theorem ways2_mem {w : Int} {ms : List M4} (g : Good w ms) {x : W3} (h : x ∈ ways2 ms) : (x.g : Int) < w ∧ (x.o : Int) < w ∧ 1 ≤ x.t ∧ x.t ≤ 1000000000 ∧ x.g ≠ x.o := by
  unfold ways2 at h
  obtain ⟨m, hm, hx⟩ := List.mem_flatMap.mp h
  obtain ⟨a1, a2, a3, a4, a5, _⟩ := g.each m hm
  unfold two at hx
  simp only [List.mem_cons, List.not_mem_nil, or_false] at hx
  rcases hx with rfl | rfl
  · exact ⟨by show (m.lo.toNat : Int) < w; omega, by show (m.hi.toNat : Int) < w; omega, a4, a5, by show m.lo.toNat ≠ m.hi.toNat; omega⟩
  · exact ⟨by show (m.hi.toNat : Int) < w; omega, by show (m.lo.toNat : Int) < w; omega, a4, a5, by show m.hi.toNat ≠ m.lo.toNat; omega⟩
end Sm
namespace L2
open PySem PySem.Spec PyProof.Rows
section
variable {n : Nat} {caps : List Nat} {g : TG} {tc : TT} {te : TE} {σ : St} {H : Hp} {Qf : Addr → Hp → List V → Prop}
end
end L2
set_option Elab.async false
set_option linter.all false
set_option maxRecDepth 100000
set_option maxHeartbeats 4000000
namespace HT
open PySem PySem.Spec PyProof.Rows
section
variable {prog : Program} {w : World} {A : Around} {E : Value → Shared → Prop} {s : Shared}
end
end HT
namespace L2
open PySem PySem.Spec PyProof.Rows
section
variable {X : Cx} {e : Expr} {te : TE} {pos p2 p3 p4 : Pos} {j : Nat}
end
end L2
set_option Elab.async false
set_option linter.all false
set_option maxRecDepth 100000
set_option maxHeartbeats 4000000
namespace Sm
open PySem L2 SmSort
def run (ws : List W3) (st : Fn) : Fn := ws.foldl fstep st
theorem run_keep : ∀ {ws : List W3} {st : Fn} {i : Nat} {y : Int}, st i = some y → run ws st i = some y
  | [], _, _, _, h => h
  | w :: ws, st, i, y, h => run_keep (ws := ws) (fstep_some h)
theorem run_from : ∀ {ws : List W3} {st : Fn} {i : Nat} {t : Int}, run ws st i = some t → st i = none → ∃ x ∈ ws, x.o = i ∧ x.t = t ∧ ∃ y, run ws st x.g = some y ∧ y < t
  | [], st, i, t, h, h0 => by
    have : st i = some t := h
    rw [h0] at this; cases this
  | w :: ws, st, i, t, h, h0 => by
    have h' : run ws (fstep st w) i = some t := h
    cases e : fstep st w i with
    | none =>
      obtain ⟨x, hx, a, b, y, hy, lt⟩ := run_from h' e
      exact ⟨x, .tail _ hx, a, b, y, hy, lt⟩
    | some z =>
      have z' := run_keep (ws := ws) e
      rw [h'] at z'; cases z'
      unfold fstep at e
      split at e
      · rename_i c
        by_cases io : i = w.o
        · subst io
          rw [put_same] at e; cases e
          obtain ⟨y, hy, lt⟩ := below_iff.mp c.2
          exact ⟨w, .head _, rfl, rfl, y, run_keep (ws := w :: ws) hy, lt⟩
        · rw [put_ne io, h0] at e; cases e
      · rw [h0] at e; cases e
structure Early (w : Nat) (ws : List W3) (s : Nat) (x : Int) (E : Fn) : Prop where
  self : E s = some x
  orig : ∀ i t, i ≠ s → E i = some t → ∃ a ∈ ws, a.o = i ∧ a.t = t ∧ ∃ y, E a.g = some y ∧ y < t
  clos : ∀ a ∈ ws, ∀ y, E a.g = some y → y < a.t → ∃ e, E a.o = some e ∧ e ≤ a.t
  inside : ∀ a ∈ ws, a.g < w ∧ a.o < w
def leO (a b : Option Int) : Prop := ∀ y, b = some y → ∃ x, a = some x ∧ x ≤ y
theorem leO.refl (a : Option Int) : leO a a := fun y h => ⟨y, h, Int.le_refl _⟩
theorem leO.trans {a b c : Option Int} (h : leO a b) (h' : leO b c) : leO a c := fun y e => by
  obtain ⟨x, hx, l⟩ := h' y e
  obtain ⟨z, hz, l'⟩ := h x hx
  exact ⟨z, hz, Int.le_trans l' l⟩
def rankE (n : Nat) (E : Fn) (t : Int) : Nat := (List.range n).countP fun j => below (E j) t
end Sm
set_option Elab.async false
set_option linter.all false
set_option maxRecDepth 100000
set_option maxHeartbeats 4000000
namespace L2
open PySem PySem.Spec PyProof.Rows
section
variable {X : Cx} {pins : List (Addr × Obj)} {σ : St} {H : Hp} {s : Shared}
end
end L2
namespace Sm
open PySem L2 SmSort
end Sm
set_option Elab.async false
set_option linter.all false
set_option maxRecDepth 100000
set_option maxHeartbeats 4000000
namespace Sm
open PySem L2 SmSort
def Link (ms : List M4) (n g o : Nat) (t : Int) : Prop := ∃ m, ms[n]? = some m ∧ m.t = t ∧ ((m.lo.toNat = g ∧ m.hi.toNat = o) ∨ (m.lo.toNat = o ∧ m.hi.toNat = g))
def Came (ms : List M4) (k : Nat) (f : Fn) (kvs : List (Key × V)) (H : Hp) : Prop :=
  ∀ o t, f o = some t → o = k ∨ ∃ tt n g y, valV kvs (Sum.inl (o : Int)) = some (.ref tt) ∧ H tt = some (.tup [.int ((n : Nat) : Int), .int ((g : Nat) : Int)]) ∧ Link ms n g o t ∧ f g = some y ∧ y < t
theorem Came.tups {ms : List M4} {k : Nat} {f : Fn} {kvs : List (Key × V)} {H H' : Hp} (c : Came ms k f kvs H) (t : Tups H H') : Came ms k f kvs H' := fun o x h => by
  rcases c o x h with e | ⟨tt, n, g, y, a1, a2, a3, a4, a5⟩
  · exact .inl e
  · exact .inr ⟨tt, n, g, y, a1, t _ _ a2, a3, a4, a5⟩
theorem Came.step {ms : List M4} {k : Nat} {f : Fn} {kvs : List (Key × V)} {H : Hp} {tt : Addr} {x : W4} (c : Came ms k f kvs H) (ho : f x.w.o = none) (hb : below (f x.w.g) x.w.t = true) (hl : Link ms x.n x.w.g x.w.o x.w.t)
    (ht : H tt = some (.tup [.int (x.n : Int), .int (x.w.g : Int)])) : Came ms k (put f x.w.o (some x.w.t)) (putK kvs (Sum.inl (x.w.o : Int)) (.ref tt)) H := fun o t h => by
  have keep : ∀ g y, f g = some y → put f x.w.o (some x.w.t) g = some y := fun g y e => by rw [put_ne fun z => by rw [z, ho] at e; cases e]; exact e
  by_cases e : o = x.w.o
  · subst e
    rw [put_same] at h; cases h
    obtain ⟨y, hy, lt⟩ := below_iff.mp hb
    exact .inr ⟨tt, x.n, x.w.g, y, by rw [valV_put, if_pos rfl], ht, hl, keep _ _ hy, lt⟩
  · rw [put_ne e] at h
    rcases c o t h with e' | ⟨t2, n, g, y, a1, a2, a3, a4, a5⟩
    · exact .inl e'
    · refine .inr ⟨t2, n, g, y, ?_, a2, a3, keep _ _ a4, a5⟩
      rw [valV_put, if_neg fun z => e (by have := Sum.inl.inj z; omega)]
      exact a1
def walkM (ms : List M4) : Nat → Int → Int → List Int → Option (Nat × Int)
  | v, t, _, [] => some (v, t)
  | v, t, a, n :: ns => match ms[n.toNat]? with
    | none => none
    | some m => if a < n ∧ 0 ≤ n ∧ (v = m.lo.toNat ∨ v = m.hi.toNat) ∧ t < m.t then walkM ms (if v = m.lo.toNat then m.hi.toNat else m.lo.toNat) m.t n ns else none
def mu (n : Nat) (E : Fn) (σ : St) : Nat := match σ[9]? with
  | some (some (V.int v)) => (match E v.toNat with
    | some e => rankE n E e
    | none => 0)
  | _ => 0
theorem Link.inside {n g o w : Nat} {t : Int} {ms : List M4} (g0 : Good w ms) (h : Link ms n g o t) : g < w ∧ o < w ∧ g ≠ o := by
  obtain ⟨m, hm, _, h⟩ := h
  obtain ⟨a1, a2, a3, _⟩ := g0.each m (List.mem_of_getElem? hm)
  rcases h with ⟨rfl, rfl⟩ | ⟨rfl, rfl⟩ <;> omega
def LetAt (H : Hp) (lt : Addr) (n s w : Nat) (a z : Int) : Prop := H lt = some (.tup [.int (s : Int), .int a, .int (w : Int), .int z]) ∧ s < n ∧ w < n ∧ 0 ≤ a ∧ a ≤ 1000000000 ∧ 0 ≤ z ∧ z ≤ 1000000000
theorem LetAt.same {H H' : Hp} {lt : Addr} {n s w : Nat} {a z : Int} (h : LetAt H lt n s w a z) (e : Same H H') : LetAt H' lt n s w a z := ⟨e _ _ h.1, h.2⟩
theorem LetAt.th {H : Hp} {lt : Addr} {n s w : Nat} {a z : Int} (h : LetAt H lt n s w a z) : Th H (.ref lt) (some [.int (s : Int), .int a, .int (w : Int), .int z]) := .inr ⟨lt, _, rfl, h.1, fun e he => by
  simp only [List.mem_cons, List.not_mem_nil, or_false] at he
  rcases he with rfl | rfl | rfl | rfl <;> exact ⟨_, rfl⟩, rfl⟩
theorem LetAt.yes {H : Hp} {lt : Addr} {n s w : Nat} {a z : Int} (h : LetAt H lt n s w a z) : isLet n (some [.int (s : Int), .int a, .int (w : Int), .int z]) = true := by
  obtain ⟨_, h1, h2, h3, h4, h5, h6⟩ := h
  simp only [isLet, inB, Bool.and_eq_true, decide_eq_true_eq]
  omega
def FoundN (H H' : Hp) (ms : List M4) (s w : Nat) (z : Int) (x : V) : Prop :=
  (x = .non ∧ bwd ms w z s = none) ∨ ∃ t l y e, ∃ ns : List Int, x = .ref t ∧ bwd ms w z s = some y ∧ H' t = some (.tup [.int y, .ref l]) ∧ H' l = some (.lst (List.map V.int ns)) ∧ walkM ms s y (-1) ns = some (w, e) ∧ e ≤ z ∧ H l = none ∧ ns.length ≤ 1000
def Found19 (H : Hp) (ms : List M4) (s w : Nat) (z : Int) (x : V) : Prop :=
  (x = .non ∧ bwd ms w z s = none) ∨ ∃ t l y e, ∃ ns : List Int, x = .ref t ∧ bwd ms w z s = some y ∧ H t = some (.tup [.int y, .ref l]) ∧ H l = some (.lst (List.map V.int ns)) ∧ walkM ms s y (-1) ns = some (w, e) ∧ e ≤ z
theorem Found19.same {H H' : Hp} {ms : List M4} {s w : Nat} {z : Int} {x : V} (h : Found19 H ms s w z x) (e : Same H H') : Found19 H' ms s w z x := by
  rcases h with h | ⟨t, l, y, e', ns, h1, h2, h3, h4, h5⟩
  · exact .inl h
  · exact .inr ⟨t, l, y, e', ns, h1, h2, e _ _ h3, e _ _ h4, h5⟩
theorem FoundN.old {H H' : Hp} {ms : List M4} {s w : Nat} {z : Int} {x : V} (h : FoundN H H' ms s w z x) : Found19 H' ms s w z x := by
  rcases h with h | ⟨t, l, y, e', ns, h1, h2, h3, h4, h5, h6, _⟩
  · exact .inl h
  · exact .inr ⟨t, l, y, e', ns, h1, h2, h3, h4, h5, h6⟩
theorem Purse.same {H H' : Hp} {p : Addr} (h : Purse H p) (e : Same H H') : Purse H' p := by
  obtain ⟨x, y, z, q⟩ := h
  exact ⟨x, y, z, e _ _ q⟩
theorem Found19.nil {H H' : Hp} {ms : List M4} {s w : Nat} {z : Int} {x x' : V} (h : Found19 H ms s w z x) (h' : Found19 H' ms s w z x') : decide (x = .non) = decide (x' = .non) := by
  rcases h with ⟨rfl, h⟩ | ⟨t, l, y, e', ns, rfl, h, _⟩ <;> rcases h' with ⟨rfl, h'⟩ | ⟨t', l', y', e2, ns', rfl, h', _⟩
  · rfl
  · rw [h] at h'; cases h'
  · rw [h] at h'; cases h'
  · simp
end Sm
set_option Elab.async false
set_option linter.all false
set_option maxRecDepth 100000
set_option maxHeartbeats 4000000
namespace Sm
open PySem L2 SmSort
end Sm
set_option Elab.async false
set_option linter.all false
set_option maxRecDepth 100000
set_option maxHeartbeats 4000000
namespace Sm
open PySem L2 SmSort
theorem Go.free {p l : Addr} {H H' : Hp} (g : Go p H H') (h : H' l = none) (np : l ≠ p) : H l = none := by
  cases e : H l with
  | none => rfl
  | some u => rw [g.1 l u np e] at h; cases h
theorem Go.put {p l : Addr} {H H' : Hp} {o : HO} (g : Go p H H') (h : H l = none) (np : l ≠ p) : Go p H (upd H' l o) := by
  refine ⟨fun b u nb e => by rw [upd_ne (ne_of_none e h)]; exact g.1 b u nb e, ?_⟩
  obtain ⟨x, y, z, e⟩ := g.2
  exact ⟨x, y, z, by rw [upd_ne np.symm]; exact e⟩
end Sm
set_option Elab.async false
set_option linter.all false
set_option maxRecDepth 100000
set_option maxHeartbeats 4000000
namespace L2
open PySem PySem.Spec PyProof.Rows
section
variable {X : Cx}
end
end L2
namespace Sm
open PySem L2 SmSort
structure R1 where
  t : Addr
  l : Addr
  s : Nat
  w : Nat
  a : Int
  e : Int
  ns : List Int
def R1.At (r : R1) (ms : List M4) (H : Hp) : Prop := H r.t = some (.tup [.int (r.w : Int), .int r.e, .ref r.l]) ∧ H r.l = some (.lst (List.map V.int r.ns)) ∧ walkM ms r.s r.a (-1) r.ns = some (r.w, r.e) ∧ r.ns.length ≤ 1000
theorem R1.At.same {r : R1} {ms : List M4} {H H' : Hp} (h : r.At ms H) (s : Same H H') : r.At ms H' := ⟨s _ _ h.1, s _ _ h.2.1, h.2.2⟩
def Row (s w : Nat) (a : Int) : List R1 → Prop
  | [] => True
  | r :: rs => r.s = s ∧ r.w = w ∧ r.a = a ∧ Row w s r.e rs
theorem Row.snoc : ∀ {rs : List R1} {s w s' w' : Nat} {a a' : Int} {r : R1}, Row s w a rs → (rs.foldl (fun (x : Nat × Nat × Int) (y : R1) => (x.2.1, x.1, y.e)) (s, w, a) = (s', w', a')) → r.s = s' → r.w = w' → r.a = a' → Row s w a (rs ++ [r])
  | [], s, w, s', w', a, a', r, _, e, h1, h2, h3 => by
    obtain ⟨rfl, e2⟩ := Prod.mk.inj e
    obtain ⟨rfl, rfl⟩ := Prod.mk.inj e2
    exact ⟨h1, h2, h3, trivial⟩
  | r0 :: rs, s, w, s', w', a, a', r, ⟨x1, x2, x3, x4⟩, e, h1, h2, h3 => ⟨x1, x2, x3, Row.snoc x4 e h1 h2 h3⟩
end Sm
set_option Elab.async false
set_option linter.all false
set_option maxRecDepth 100000
set_option maxHeartbeats 4000000
namespace L2
open PySem PySem.Spec PyProof.Rows
end L2
namespace L2
open PySem PySem.Spec PyProof.Rows
end L2
set_option Elab.async false
set_option linter.all false
set_option maxRecDepth 100000
set_option maxHeartbeats 4000000
namespace Sm
open PySem L2 SmSort
structure D1 where
  t : Addr
  la : Addr
  s : Nat
  w : Nat
  a : Int
  z : Int
  e : Int
def D1.At (d : D1) (n : Nat) (H : Hp) : Prop := H d.t = some (.tup [.ref d.la, .int d.e]) ∧ LetAt H d.la n d.s d.w d.a d.z ∧ d.e ≤ d.z
theorem D1.At.same {d : D1} {n : Nat} {H H' : Hp} (h : d.At n H) (s : Same H H') : d.At n H' := ⟨s _ _ h.1, h.2.1.same s, h.2.2⟩
theorem D1.At.tups {d : D1} {n : Nat} {H H' : Hp} (h : d.At n H) (s : Tups H H') : d.At n H' := ⟨s _ _ h.1, ⟨s _ _ h.2.1.1, h.2.1.2⟩, h.2.2⟩
def D1.is (d : D1) : Nat × Nat × Int × Int × Int := (d.s, d.w, d.a, d.z, d.e)
def D1.key (d : D1) : Nat × Nat × Int × Int := (d.s, d.w, d.a, d.e)
def R1.key (r : R1) : Nat × Nat × Int × Int := (r.s, r.w, r.a, r.e)
end Sm
namespace L2
open PySem
theorem iteN {c : Bool} {A : Prop} {D : Ends} {σ : St} {H : Hp} (Pre : St → Hp → Prop) (k : ∀ σ H, Pre σ H → D.nx σ H) (h1 : c = true → (∀ σ H, Pre σ H → D.nx σ H) → A) (h2 : c = false → Pre σ H) : if c = true then A else tNext D σ H := by
  cases c with
  | true => exact h1 rfl k
  | false => exact k _ _ (h2 rfl)
end L2
set_option Elab.async false
set_option linter.all false
namespace Sm
open PySem L2 SmSort
theorem iteO {c : Bool} {A B : Prop} {D : Ends} {σ : St} {H : Hp} (Pre : St → Hp → Prop) (k : ∀ σ H, Pre σ H → D.nx σ H) (h1 : c = true → (∀ σ H, Pre σ H → D.nx σ H) → A) (h2 : c = false → (∀ σ H, Pre σ H → D.nx σ H) → B) : if c = true then (if true = true then A else tNext D σ H) else B := by
  cases c with
  | true => exact h1 rfl k
  | false => exact h2 rfl k
theorem iteA {c : Bool} {T2 A : Prop} {D : Ends} {σ : St} {H : Hp} (Pre : St → Hp → Prop) (k : ∀ σ H, Pre σ H → D.nx σ H) (h1 : c = true → (∀ σ H, Pre σ H → D.nx σ H) → T2) (h2 : c = false → Pre σ H) : if c = true then T2 else (if false = true then A else tNext D σ H) := by
  cases c with
  | true => exact h1 rfl k
  | false => exact k _ _ (h2 rfl)
end Sm
set_option Elab.async false
set_option linter.all false
set_option maxRecDepth 100000
set_option maxHeartbeats 4000000
namespace Sm
open PySem L2 SmSort
end Sm
set_option Elab.async false
set_option linter.all false
set_option maxRecDepth 100000
set_option maxHeartbeats 4000000
namespace L2
open PySem PySem.Spec PyProof.Rows
section
variable {X : Cx}
end
end L2
namespace Sm
open PySem L2 SmSort
end Sm
set_option Elab.async false
set_option linter.all false
set_option maxRecDepth 100000
set_option maxHeartbeats 4000000
namespace Sm
open PySem L2 SmSort
abbrev Kn := Nat → Nat → Option Int
def mx : Option Int → Option Int → Option Int
  | none, b => b
  | some a, none => some a
  | some a, some b => some (if b > a then b else a)
def both (K : Kn) (m : M4) (v : Nat) : Option Int :=
  mx (if v = m.lo.toNat then some (m.t - 1) else K m.lo.toNat v) (if v = m.hi.toNat then some (m.t - 1) else K m.hi.toNat v)
theorem ahead {n : Nat} {ms : List M4} {m : M4} (g : Good n (ms ++ [m])) {v : Nat} {x y : Int} {i : Nat} (hi : i ≠ v) (h : fwd ms (lone v x) i = some y) : y ≤ m.t ∧ ((i = m.lo.toNat ∨ i = m.hi.toNat) → y < m.t) := by
  obtain ⟨a, ha, ao, at', _⟩ := run_from (ws := ways2 ms) h (by simp [lone, hi])
  unfold ways2 at ha
  obtain ⟨c, hc, hx⟩ := List.mem_flatMap.mp ha
  have od := (List.pairwise_append.mp g.order).2.2 c hc m (by simp)
  obtain ⟨c1, c2, c3, _⟩ := g.each c (by simp [hc])
  obtain ⟨m1, m2, m3, _⟩ := g.each m (by simp)
  unfold two at hx
  simp only [List.mem_cons, List.not_mem_nil, or_false] at hx
  have ct : c.t = y := by rcases hx with rfl | rfl <;> exact at'
  have ci : i = c.lo.toNat ∨ i = c.hi.toNat := by
    rcases hx with rfl | rfl
    · exact .inr ao.symm
    · exact .inl ao.symm
  refine ⟨by rcases od with h | h <;> omega, fun hm => ?_⟩
  rcases od with h | ⟨h1, h2, h3, h4, h5, h6⟩
  · omega
  · exfalso
    rcases ci with e | e <;> rcases hm with e' | e' <;> omega
end Sm
set_option Elab.async false
set_option linter.all false
set_option maxRecDepth 100000
set_option maxHeartbeats 4000000
namespace L2
open PySem PySem.Spec PyProof.Rows
section
variable {X : Cx}
end
end L2
namespace Sm
open PySem L2 SmSort
def RowsOf (H0 H : Hp) (as : List Addr) (n : Nat) (K : Kn) : Prop := as.length = n ∧ as.Nodup ∧ ∀ k a, as[k]? = some a → H0 a = none ∧ H a = some (.lst ((rep n (K k)).map oV))
theorem RowsOf.same {H0 H H' : Hp} {as : List Addr} {n : Nat} {K : Kn} (h : RowsOf H0 H as n K) (s : Same H H') : RowsOf H0 H' as n K := ⟨h.1, h.2.1, fun k a hk => ⟨(h.2.2 k a hk).1, s _ _ (h.2.2 k a hk).2⟩⟩
theorem RowsOf.put {H0 H : Hp} {as : List Addr} {n : Nat} {K : Kn} {l : Addr} {o : HO} (h : RowsOf H0 H as n K) (hl : l ∉ as) : RowsOf H0 (upd H l o) as n K := ⟨h.1, h.2.1, fun k a hk => ⟨(h.2.2 k a hk).1, by rw [upd_ne (fun e => hl (by rw [← e]; exact List.mem_of_getElem? hk))]; exact (h.2.2 k a hk).2⟩⟩
end Sm
set_option Elab.async false
set_option linter.all false
set_option maxRecDepth 100000
set_option maxHeartbeats 4000000
namespace L2
open PySem PySem.Spec PyProof.Rows
section
variable {X : Cx} {pins : List (Addr × Obj)} {σ : St} {H : Hp} {s : Shared}
end
end L2
set_option Elab.async false
set_option linter.all false
set_option maxRecDepth 100000
set_option maxHeartbeats 4000000
namespace L2
open PySem PySem.Spec PyProof.Rows
section
variable {n : Nat} {caps : List Nat} {σ : St} {H : Hp} {g : TG} {tc : TT} {te : TE} {Qf : Addr → Hp → List V → Prop} {K : PySem.W.Frag} {a b : Addr} {xs ys : List V}
end
section
variable {X : Cx}
end
end L2
namespace Sm
open PySem L2 SmSort
end Sm
set_option Elab.async false
set_option linter.all false
set_option maxRecDepth 100000
set_option maxHeartbeats 400000
namespace L2
open PySem PySem.Spec PyProof.Rows
open AutoSeq1 (wpAny_loadPart')
section
variable {X : Cx}
end
end L2
namespace Sm
open PySem L2 SmSort
def Lh (H : Hp) (x : V) (r : Option (List V)) : Prop :=
  (∃ t, tyS H x = some t ∧ t ≠ "list" ∧ r = none) ∨ (∃ a xs, x = .ref a ∧ H a = some (.lst xs) ∧ (∀ e ∈ xs, ∃ t, tyS H e = some t) ∧ xs.length ≤ 1000 ∧ r = some xs)
theorem Lh.same {H H' : Hp} {x : V} {r : Option (List V)} (h : Lh H x r) (s : Same H H') : Lh H' x r := by
  rcases h with ⟨t, h1, h2, h3⟩ | ⟨a, xs, h1, h2, h3, h4, h5⟩
  · exact .inl ⟨t, tyS_same s h1, h2, h3⟩
  · exact .inr ⟨a, xs, h1, s _ _ h2, fun e he => (h3 e he).imp fun t ht => tyS_same s ht, h4, h5⟩
end Sm
namespace Sm
open PySem L2 SmSort
theorem atI_ex {xs : List V} {i : Int} (h0 : 0 ≤ i) (h1 : i < xs.length) : ∃ v, atI xs i = some v ∧ v ∈ xs := by
  obtain ⟨k, rfl⟩ := Int.eq_ofNat_of_zero_le h0
  have hk : k < xs.length := by omega
  exact ⟨xs[k], atI_nat (List.getElem?_eq_getElem hk), List.getElem_mem hk⟩
def Od (H : Hp) (x : V) (r : Option (List V)) : Prop :=
  (scal x x = true ∧ (∃ t, tyS H x = some t ∧ t ≠ "list") ∧ r = none) ∨ (∃ a xs, x = .ref a ∧ H a = some (.tup xs) ∧ r = none) ∨ (∃ d, x = .ref d ∧ H d = some (.dK []) ∧ r = none) ∨
  (∃ a xs, x = .ref a ∧ H a = some (.lst xs) ∧ (∀ e ∈ xs, (∃ t, tyS H e = some t) ∧ (flatV e = true ∨ ∃ a, e = .ref a)) ∧ xs.length ≤ 1000 ∧ r = some xs)
theorem Od.lh {H : Hp} {x : V} {r : Option (List V)} (h : Od H x r) : Lh H x r := by
  rcases h with ⟨_, ⟨t, ht, ne⟩, e⟩ | ⟨a, xs, rfl, ha, e⟩ | ⟨d, rfl, hd, e⟩ | ⟨a, xs, rfl, ha, hi, hl, e⟩
  · exact .inl ⟨t, ht, ne, e⟩
  · exact .inl ⟨"tuple", tyS_tup ha, by decide, e⟩
  · exact .inl ⟨"dict", tyS_dct hd, by decide, e⟩
  · exact .inr ⟨a, xs, rfl, ha, fun e he => (hi e he).1, hl, e⟩
def TyKeep (H H' : Hp) : Prop := ∀ x t, tyS H x = some t → tyS H' x = some t
theorem TyKeep.same {H H' : Hp} (s : Same H H') : TyKeep H H' := fun x t h => tyS_same s h
theorem TyKeep.but {H H' : Hp} {l : Addr} {xs ys : List V} (h : H l = some (.lst xs)) (h' : H' l = some (.lst ys)) (b : But l H H') : TyKeep H H' := fun x t ht => by
  cases x with
  | ref a =>
    unfold tyS at ht ⊢
    dsimp only at ht ⊢
    by_cases e : a = l
    · rw [e, h] at ht
      rw [e, h']; exact ht
    · cases ea : H a with
      | none => rw [ea] at ht; simp at ht
      | some o => rw [ea] at ht; rw [b a o e ea]; exact ht
  | _ => exact ht
theorem Od.but {H H' : Hp} {l : Addr} {xs ys : List V} {x : V} {r : Option (List V)} (o : Od H x r) (h : H l = some (.lst xs)) (h' : H' l = some (.lst ys)) (b : But l H H') (ne : x ≠ .ref l) : Od H' x r := by
  have tk := TyKeep.but h h' b
  rcases o with ⟨s, ⟨t, ht, ne'⟩, e⟩ | ⟨a, xs, rfl, ha, e⟩ | ⟨d, rfl, hd, e⟩ | ⟨a, xs, rfl, ha, hi, hl, e⟩
  · exact .inl ⟨s, ⟨t, tk _ _ ht, ne'⟩, e⟩
  · exact .inr (.inl ⟨a, xs, rfl, b _ _ (fun z => ne (by rw [z])) ha, e⟩)
  · exact .inr (.inr (.inl ⟨d, rfl, b _ _ (fun z => ne (by rw [z])) hd, e⟩))
  · exact .inr (.inr (.inr ⟨a, xs, rfl, b _ _ (fun z => ne (by rw [z])) ha, fun e he => ⟨(hi e he).1.imp fun t ht => tk _ _ ht, (hi e he).2⟩, hl, e⟩))
theorem Od.same {H H' : Hp} {x : V} {r : Option (List V)} (o : Od H x r) (s : Same H H') : Od H' x r := by
  rcases o with ⟨sc, ⟨t, ht, ne'⟩, e⟩ | ⟨a, xs, rfl, ha, e⟩ | ⟨d, rfl, hd, e⟩ | ⟨a, xs, rfl, ha, hi, hl, e⟩
  · exact .inl ⟨sc, ⟨t, tyS_same s ht, ne'⟩, e⟩
  · exact .inr (.inl ⟨a, xs, rfl, s _ _ ha, e⟩)
  · exact .inr (.inr (.inl ⟨d, rfl, s _ _ hd, e⟩))
  · exact .inr (.inr (.inr ⟨a, xs, rfl, s _ _ ha, fun e he => ⟨(hi e he).1.imp fun t ht => tyS_same s ht, (hi e he).2⟩, hl, e⟩))
theorem Od.go {H H' : Hp} {p : Addr} {x : V} {r : Option (List V)} (o : Od H x r) (hp : Purse H p) (g : Go p H H') (ne : x ≠ .ref p) : Od H' x r := by
  obtain ⟨a, b, c, h⟩ := hp
  obtain ⟨a', b', c', h'⟩ := g.2
  exact o.but h h' g.1 ne
theorem Od.row {H : Hp} {a : Addr} {n : Nat} {f : Fn} (h : H a = some (.lst ((rep n f).map oV))) (hn : n ≤ 1000) : Od H (.ref a) (some ((rep n f).map oV)) :=
  .inr (.inr (.inr ⟨a, _, rfl, h, fun e he => by
    obtain ⟨o, _, rfl⟩ := List.mem_map.mp he
    cases o with
    | none => exact ⟨⟨_, rfl⟩, .inl rfl⟩
    | some y => exact ⟨⟨_, rfl⟩, .inl rfl⟩, by rw [List.length_map, rep_len]; exact hn, rfl⟩))
end Sm
namespace L2
open PySem
end L2
namespace Sm
open PySem L2
structure E12 where
  t : Addr
  lt : Addr
  x : V
  r : Option (List V)
  s : Nat
  w : Nat
  a : Int
  z : Int
def E12.At (e : E12) (n : Nat) (lh : Addr) (H : Hp) : Prop := H e.t = some (.tup [.ref e.lt, e.x]) ∧ LetAt H e.lt n e.s e.w e.a e.z ∧ Od H e.x e.r ∧ e.x ≠ .ref lh
theorem E12.At.same {e : E12} {n : Nat} {lh : Addr} {H H' : Hp} (h : e.At n lh H) (s : Same H H') : e.At n lh H' := ⟨s _ _ h.1, h.2.1.same s, h.2.2.1.same s, h.2.2.2⟩
theorem E12.At.put {e : E12} {n : Nat} {lh : Addr} {H : Hp} {xs ys : List V} (h : e.At n lh H) (hl : H lh = some (.lst xs)) : e.At n lh (upd H lh (.lst ys)) :=
  ⟨Tups.set hl _ _ h.1, ⟨Tups.set hl _ _ h.2.1.1, h.2.1.2⟩, h.2.2.1.but hl upd_same (But.set) h.2.2.2, h.2.2.2⟩
end Sm
set_option Elab.async false
set_option linter.all false
set_option maxRecDepth 100000
set_option maxHeartbeats 400000
namespace Sm
open PySem L2 SmSort
end Sm
set_option Elab.async false
set_option linter.all false
set_option maxRecDepth 100000
set_option maxHeartbeats 400000
namespace L2
open PySem PySem.Spec PyProof.Rows
section
variable {X : Cx}
end
end L2
namespace Sm
open PySem L2
end Sm
set_option Elab.async false
set_option linter.all false
set_option maxRecDepth 100000
set_option maxHeartbeats 400000
namespace L2
open PySem PySem.Spec PyProof.Rows
section
variable {X : Cx}
end
end L2
set_option Elab.async false
set_option linter.all false
set_option maxRecDepth 100000
set_option maxHeartbeats 400000
namespace Sm
open PySem L2 SmSort
def jstep (row F : Fn) (x : W3) : Fn := if below (row x.g) x.t = true ∧ upto (F x.o) x.t = false then put F x.o (some x.t) else F
def jac (ws : List W3) (row : Fn) : Fn := ws.foldl (jstep row) row
theorem upto_mono {o : Option Int} {a b : Int} (h : upto o a = true) (l : a ≤ b) : upto o b = true := by
  obtain ⟨y, e, ly⟩ := upto_iff.mp h
  exact upto_iff.mpr ⟨y, e, by omega⟩
def Le (F G : Fn) : Prop := ∀ i y, G i = some y → upto (F i) y = true
theorem Le.refl (F : Fn) : Le F F := fun i y h => upto_iff.mpr ⟨y, h, Int.le_refl _⟩
theorem Le.trans {F G K : Fn} (a : Le F G) (b : Le G K) : Le F K := fun i y h => by
  obtain ⟨z, e, l⟩ := upto_iff.mp (b i y h)
  exact upto_mono (a i z e) l
theorem jstep_le (row F : Fn) (x : W3) : Le (jstep row F x) F := fun i y h => by
  unfold jstep
  split
  · rename_i c
    by_cases e : i = x.o
    · subst e
      rw [put_same]
      have := c.2
      rw [h] at this
      have := of_decide_eq_false this
      exact decide_eq_true (by omega)
    · rw [put_ne e]; exact upto_iff.mpr ⟨y, h, Int.le_refl _⟩
  · exact upto_iff.mpr ⟨y, h, Int.le_refl _⟩
theorem jfold_le (row : Fn) : ∀ (ws : List W3) (F : Fn), Le (ws.foldl (jstep row) F) F
  | [], F => Le.refl F
  | x :: ws, F => (jfold_le row ws (jstep row F x)).trans (jstep_le row F x)
theorem jac_le (ws : List W3) (row : Fn) : Le (jac ws row) row := jfold_le row ws row
theorem jfold_has (row : Fn) : ∀ (ws : List W3) (F : Fn) (x : W3), x ∈ ws → below (row x.g) x.t = true → upto (ws.foldl (jstep row) F x.o) x.t = true
  | w :: ws, F, x, hx, hb => by
    rcases List.mem_cons.mp hx with rfl | hx
    · have : upto (jstep row F x x.o) x.t = true := by
        unfold jstep
        by_cases u : upto (F x.o) x.t = true
        · rw [if_neg (by rw [u]; simp)]; exact u
        · rw [if_pos ⟨hb, by simpa using u⟩, put_same]; exact decide_eq_true (Int.le_refl _)
      obtain ⟨y, e, l⟩ := upto_iff.mp this
      exact upto_mono (jfold_le row ws (jstep row F x) x.o y e) l
    · exact jfold_has row ws (jstep row F w) x hx hb
theorem jac_has {ws : List W3} {row : Fn} {x : W3} (hx : x ∈ ws) (hb : below (row x.g) x.t = true) : upto (jac ws row x.o) x.t = true := jfold_has row ws row x hx hb
theorem jfold_from (row : Fn) : ∀ (ws : List W3) (F : Fn) (i : Nat) (y : Int), ws.foldl (jstep row) F i = some y → F i = some y ∨ ∃ x ∈ ws, x.o = i ∧ x.t = y ∧ below (row x.g) y = true
  | [], F, i, y, h => .inl h
  | w :: ws, F, i, y, h => by
    rcases jfold_from row ws (jstep row F w) i y h with h | ⟨x, hx, r⟩
    · unfold jstep at h
      split at h
      · rename_i c
        by_cases e : i = w.o
        · subst e
          rw [put_same] at h; cases h
          exact .inr ⟨w, .head _, rfl, rfl, c.1⟩
        · rw [put_ne e] at h; exact .inl h
      · exact .inl h
    · exact .inr ⟨x, .tail _ hx, r⟩
theorem jac_from {ws : List W3} {row : Fn} {i : Nat} {y : Int} (h : jac ws row i = some y) : row i = some y ∨ ∃ x ∈ ws, x.o = i ∧ x.t = y ∧ below (row x.g) y = true := jfold_from row ws row i y h
def jrow (ws : List W3) (row : Fn) : Nat → Fn
  | 0 => row
  | k + 1 => jac ws (jrow ws row k)
def rk (ws : List W3) : Option Int → Nat
  | none => ws.length + 1
  | some y => ws.countP fun x => decide (x.t < y)
theorem rk_lt {ws : List W3} {x : W3} (hx : x ∈ ws) {o : Option Int} (h : upto o x.t = false) : rk ws (some x.t) < rk ws o := by
  cases o with
  | none =>
    show ws.countP _ < ws.length + 1
    exact Nat.lt_succ_of_le List.countP_le_length
  | some y =>
    have lt : x.t < y := by have := of_decide_eq_false h; omega
    show ws.countP (fun w => decide (w.t < x.t)) < ws.countP (fun w => decide (w.t < y))
    induction ws with
    | nil => cases hx
    | cons w ws ih =>
      rw [List.countP_cons, List.countP_cons]
      have mono : ws.countP (fun w => decide (w.t < x.t)) ≤ ws.countP (fun w => decide (w.t < y)) := List.countP_mono_left fun w _ h => decide_eq_true (by have := of_decide_eq_true h; omega)
      rcases List.mem_cons.mp hx with rfl | hx
      · rw [if_neg (by simp), if_pos (decide_eq_true lt)]; omega
      · have := ih hx
        by_cases c : w.t < x.t
        · rw [if_pos (decide_eq_true c), if_pos (decide_eq_true (by omega))]; omega
        · rw [if_neg (by simpa using c)]; split <;> omega
end Sm
set_option Elab.async false
set_option linter.all false
set_option maxRecDepth 100000
set_option maxHeartbeats 4000000
namespace L2
open PySem PySem.Spec PyProof.Rows
def ZipHeld (h : Heap) (z TI TO T : Addr) (f : Bool) : Prop := h.get? z = some { cls := .type "zip", data := .fields #[rawInt T, .bool f, .bool false, .ref TI, .ref TO] }
section
variable {prog : Program} {w : World} {A : Around} {E : Value → Shared → Prop} {s : Shared}
def ZipGo (h : Heap) (z TI TO i1 i2 l1 l2 : Addr) (xs ys : Array Value) (i : Nat) : Prop :=
  ((IsZip h z TI TO .none ∧ ∃ a b, IsPair h TO a b) ∨ ∃ T f oT, ZipHeld h z TI TO T f ∧ h.get? T = some oT ∧ T ≠ z ∧ T ≠ i1 ∧ T ≠ i2) ∧ IsPair h TI (.ref i1) (.ref i2) ∧ h.IsListIter i1 l1 i ∧ h.IsListIter i2 l2 i ∧ h.IsList l1 xs ∧ h.IsList l2 ys
theorem ZipGo.at {h h' : Heap} {z TI TO i1 i2 l1 l2 S : Addr} {xs ys : Array Value} {i : Nat} (x : ZipGo h z TI TO i1 i2 l1 l2 xs ys i) (hk : ∀ b o, b ≠ S → h.get? b = some o → h'.get? b = some o) (d : S ∉ [z, TI, TO, i1, i2, l1, l2]) (dT : ∀ T f, ZipHeld h z TI TO T f → T ≠ S) : ZipGo h' z TI TO i1 i2 l1 l2 xs ys i := by
  simp only [List.mem_cons, List.not_mem_nil, or_false, not_or] at d
  obtain ⟨d1, d2, d3, d4, d5, d6, d7⟩ := d
  obtain ⟨hz, hTI, h1, h2, hl1, hl2⟩ := x
  refine ⟨?_, hk _ _ (Ne.symm d2) hTI, h1.at fun o e => hk _ o (Ne.symm d4) e, h2.at fun o e => hk _ o (Ne.symm d5) e, hl1.at fun o e => hk _ o (Ne.symm d6) e, hl2.at fun o e => hk _ o (Ne.symm d7) e⟩
  rcases hz with ⟨hz, a, b, hTO⟩ | ⟨T, f, oT, hz, hT, n⟩
  · exact .inl ⟨hk _ _ (Ne.symm d1) hz, a, b, hk _ _ (Ne.symm d3) hTO⟩
  · exact .inr ⟨T, f, oT, hk _ _ (Ne.symm d1) hz, hk _ _ (dT T f hz) hT, n⟩
theorem ZipGo.upd {h : Heap} {z TI TO i1 i2 l1 l2 S : Addr} {xs ys : Array Value} {i : Nat} {g : Obj → Obj} (x : ZipGo h z TI TO i1 i2 l1 l2 xs ys i) (d : S ∉ [z, TI, TO, i1, i2, l1, l2]) (dT : ∀ T f, ZipHeld h z TI TO T f → T ≠ S) :
    ZipGo (h.update S g) z TI TO i1 i2 l1 l2 xs ys i ∧ ∀ T f, ZipHeld (h.update S g) z TI TO T f → T ≠ S :=
  ⟨x.at (S := S) (fun b o hb e => (Heap.get?_update_other _ _ (Ne.symm hb)).trans e) d dT, fun T f q => dT T f (by
    have e : S ≠ z := fun e => d (by simp [e])
    unfold ZipHeld at q ⊢
    rw [← q]; exact (Heap.get?_update_other _ _ e).symm)⟩
end
end L2
set_option Elab.async false
set_option linter.all false
set_option maxRecDepth 100000
set_option maxHeartbeats 4000000
namespace L2
open PySem PySem.Spec PyProof.Rows
section
variable {X : Cx} {pins : List (Addr × Obj)} {σ : St} {H H' : Hp} {s : Shared} {h' : Heap}
end
section
variable {X : Cx}
end
end L2
set_option Elab.async false
set_option linter.all false
set_option maxRecDepth 100000
set_option maxHeartbeats 400000
namespace Sm
open PySem L2 SmSort
structure Rows (H0 H : Hp) (ms : List M4) (n k : Nat) (x : Int) (as : List Addr) : Prop where
  pos : as ≠ []
  few : as.length ≤ 200000
  at' : ∀ (i : Nat) (a : Addr), as[i]? = some a → H0 a = none ∧ H a = some (.lst ((rep n (jrow (ways2 ms) (lone k x) i)).map oV))
  ne : ∀ i, i + 1 < as.length → rep n (jrow (ways2 ms) (lone k x) (i + 1)) ≠ rep n (jrow (ways2 ms) (lone k x) i)
  last : rep n (jrow (ways2 ms) (lone k x) as.length) = rep n (jrow (ways2 ms) (lone k x) (as.length - 1))
theorem Rows.same {H0 H H' : Hp} {ms : List M4} {n k : Nat} {x : Int} {as : List Addr} (r : Rows H0 H ms n k x as) (s : Same H H') : Rows H0 H' ms n k x as := ⟨r.pos, r.few, fun i a h => ⟨(r.at' i a h).1, s _ _ (r.at' i a h).2⟩, r.ne, r.last⟩
end Sm
namespace L2
open PySem PySem.Spec PyProof.Rows
section
variable {K : PySem.W.Frag} {a : Addr} {xs : List V} {n : Nat} {caps : List Nat} {g : TG} {tc : TT} {te : TE} {σ : St} {H : Hp} {Qf : Addr → Hp → List V → Prop}
end
end L2
namespace Sm
open PySem L2 SmSort
end Sm
namespace Sm
open PySem L2 SmSort
structure LineOk (n : Nat) (W : Int) (ms : List M4) : Prop where
  each : ∀ r ∈ ms, 0 ≤ r.lo ∧ r.lo < r.hi ∧ r.hi < n ∧ 1 ≤ r.t ∧ r.t ≤ W ∧ 1 ≤ r.m ∧ r.m ≤ 99
  order : ms.Pairwise fun a b => a.t < b.t
theorem LineOk.nil {n : Nat} {W : Int} : LineOk n W [] := ⟨fun _ h => (by cases h), .nil⟩
theorem LineOk.snoc {n : Nat} {W t a b : Int} {ms : List M4} (h : LineOk n W ms) (w0 : 0 ≤ W) (ht : W < t) (ha : 0 ≤ a ∧ a < n) (hb : 0 ≤ b ∧ b < n) (ne : a ≠ b) {lo hi : Int} (el : lo = min a b) (eh : hi = max a b) : LineOk n t (ms ++ [⟨lo, hi, t, 1⟩]) := by
  refine ⟨fun r hr => ?_, List.pairwise_append.mpr ⟨h.order, List.pairwise_singleton _ _, fun x hx y hy => ?_⟩⟩
  · rcases List.mem_append.mp hr with hr | hr
    · have := h.each r hr
      omega
    · cases List.mem_singleton.mp hr
      subst el eh
      dsimp only
      omega
  · cases List.mem_singleton.mp hy
    have := h.each x hx
    show x.t < t
    omega
theorem LineOk.good {n : Nat} {W : Int} {ms : List M4} (h : LineOk n W ms) (hw : W ≤ 1000000000) (hl : ms.length ≤ 60) : Good n ms :=
  ⟨hl, fun r hr => by have := h.each r hr; omega, h.order.imp fun h => .inl h⟩
end Sm
namespace Sm
open PySem L2
end Sm
set_option Elab.async false
set_option linter.all false
set_option maxRecDepth 100000
set_option maxHeartbeats 400000
namespace Sm
open PySem L2 SmSort
def NewAt (ws : List W3) (r : Fn) (i v : Nat) (T : Int) : Prop := jrow ws r i v = some T ∧ (i = 0 ∨ upto (jrow ws r (i - 1) v) T = false)
theorem NewAt.back {ws : List W3} {r : Fn} {i v : Nat} {T : Int} (h : NewAt ws r (i + 1) v T) : ∃ x ∈ ws, x.o = v ∧ x.t = T ∧ ∃ y, y < T ∧ NewAt ws r i x.g y := by
  obtain ⟨h1, h2⟩ := h
  have h2 : upto (jrow ws r i v) T = false := h2.resolve_left (by omega)
  rcases jac_from h1 with h | ⟨x, hx, rfl, rfl, hb⟩
  · rw [h] at h2
    exact absurd (of_decide_eq_false h2) (by omega)
  · obtain ⟨y, hy, lt⟩ := below_iff.mp hb
    refine ⟨x, hx, rfl, rfl, y, lt, hy, ?_⟩
    cases i with
    | zero => exact .inl rfl
    | succ i =>
      refine .inr ?_
      cases e : upto (jrow ws r i x.g) y with
      | false => exact e
      | true =>
        obtain ⟨z, hz, lz⟩ := upto_iff.mp e
        have : upto (jac ws (jrow ws r i) x.o) x.t = true := jac_has hx (below_iff.mpr ⟨z, hz, by omega⟩)
        exact absurd (h2.symm.trans this) (by decide)
theorem NewAt.few {n : Nat} {ms : List M4} (g : Good n ms) {r : Fn} : ∀ {i v : Nat} {T : Int}, v < n → NewAt (ways2 ms) r i v T → ∃ vs : List Nat, vs.length = i + 1 ∧ vs.Nodup ∧ ∀ u ∈ vs, u < n ∧ upto (jrow (ways2 ms) r i u) T = true
  | 0, v, T, hv, h => ⟨[v], rfl, by simp, fun u hu => by
      cases List.mem_singleton.mp hu
      exact ⟨hv, upto_iff.mpr ⟨T, h.1, Int.le_refl _⟩⟩⟩
  | i + 1, v, T, hv, h => by
    obtain ⟨x, hx, rfl, rfl, y, lt, hn⟩ := h.back
    obtain ⟨g1, g2, _⟩ := ways2_mem g hx
    obtain ⟨vs, l, nd, al⟩ := NewAt.few g (by omega) hn
    refine ⟨x.o :: vs, by rw [List.length_cons, l], List.nodup_cons.mpr ⟨fun hm => ?_, nd⟩, fun u hu => ?_⟩
    · have := upto_mono (al _ hm).2 (Int.le_of_lt lt)
      exact absurd ((h.2.resolve_left (by omega)).symm.trans this) (by decide)
    · rcases List.mem_cons.mp hu with rfl | hu
      · exact ⟨hv, upto_iff.mpr ⟨_, h.1, Int.le_refl _⟩⟩
      · obtain ⟨a1, a2⟩ := al u hu
        obtain ⟨z, hz, lz⟩ := upto_iff.mp a2
        exact ⟨a1, upto_mono (jac_le (ways2 ms) _ u z hz) (by omega)⟩
end Sm
namespace Sm
open PySem L2 SmSort
theorem Link.turn {ms : List M4} {n g o : Nat} {t : Int} (h : Link ms n g o t) : Link ms n o g t := by
  obtain ⟨m, a, b, c⟩ := h
  exact ⟨m, a, b, c.symm⟩
theorem Link.other {w : Int} {ms : List M4} (gd : Good w ms) {n v g : Nat} {t : Int} {m : M4} (h : Link ms n v g t) (hm : ms[n]? = some m) : (if (v : Int) = m.lo then m.hi else m.lo) = (g : Int) := by
  obtain ⟨m', hm', _, c⟩ := h
  rw [hm] at hm'; cases hm'
  obtain ⟨a1, a2, _⟩ := gd.each m (List.mem_of_getElem? hm)
  rcases c with ⟨c1, c2⟩ | ⟨c1, c2⟩
  · rw [if_pos (by omega)]; omega
  · rw [if_neg (by omega)]; omega
end Sm
namespace Sm
open PySem L2 SmSort
end Sm
set_option Elab.async false
set_option linter.all false
set_option maxRecDepth 100000
set_option maxHeartbeats 400000
namespace Sm
open PySem L2 SmSort
def again (ms : List M4) (day first : Int) : Nat → List M4
  | 0 => []
  | r + 1 => again ms day first r ++ ms.map (M4.late ((first + r) * day))
def W3.late (l : Int) (x : W3) : W3 := ⟨x.g, x.o, x.t + l⟩
structure DayOk (ms : List M4) (day first x : Int) : Prop where
  pos : 1 ≤ day
  each : ∀ m ∈ ms, 1 ≤ m.t ∧ m.t ≤ day
  lo : first * day ≤ x
  hi : x < (first + 1) * day
theorem DayOk.mk' {ms : List M4} {day x : Int} (h : 1 ≤ day) (e : ∀ m ∈ ms, 1 ≤ m.t ∧ m.t ≤ day) : DayOk ms day (x / day) x := by
  refine ⟨h, e, ?_, ?_⟩
  · exact Int.ediv_mul_le _ (by omega)
  · have := Int.lt_ediv_add_one_mul_self x (show 0 < day by omega)
    exact this
end Sm
set_option Elab.async false
set_option linter.all false
set_option maxRecDepth 100000
set_option maxHeartbeats 400000
namespace L2
open PySem PySem.Spec PyProof.Rows
def Itd (lo c : Int) (n : Nat) : It := ⟨fun i _ => i < n, fun i H x H' => H' = H ∧ x = .int (lo + i * c), fun i _ => n ≤ i⟩
theorem turn_rangeS {P : Program} {w : World} {K : PySem.W.Frag} {tg : Expr} (it : Addr) (lo c : Int) (n : Nat) : Turn P w K tg (Itd lo c n) [it] it (fun i h => IsRangeIter h it (lo + (i : Nat) * c) ((n : Int) - (i : Nat)) c) where
  mem := by simp
  obj := fun i h st b hb => by
    have e : b = it := by simpa using hb
    subst e
    exact ⟨_, st, fun v z => by
      have z' : Data.fields _ = Data.cell v := z
      cases z'⟩
  keep := fun i h h' st k => k it (by simp) _ st
  item := by
    intro X hP hw hK hc i pins s σ H E I hf st hg
    subst hP hw hK
    obtain ⟨f0, f1, f2, f3, f4, f5⟩ := hf it (by simp)
    have W := Walks.range (prog := X.prog) (w := X.w) (I.ok.hd hc) it lo c n
    refine W.item i s _ _ hg st fun v h' tk hv st' kk => ?_
    obtain ⟨t, rfl⟩ := hv
    have I1 : Inv X pins σ H { s with heap := h', toks := tk } := I.turned (fun b o hb e => kk b o (by simpa using hb) e) f0 f1 f3 f4 f5
    exact ⟨_, rfl, go_of (s := { s with heap := h', toks := tk }) (n := "range_iterator") st' rfl rfl (by decide) ⟨.int (lo + i * c), H, I1, ⟨t, rfl⟩, ⟨rfl, rfl⟩, st', fun b hb => (hf b hb).1⟩⟩
  done := by
    intro X hP hw hK hc i pins s σ H E I hf st hg
    subst hP hw hK
    obtain ⟨f0, f1, f2, f3, f4, f5⟩ := hf it (by simp)
    exact wpAny_pyNext_range_end (I.ok.hd hc) st (by have : n ≤ i := hg; omega) fun h' eb => ⟨rfl, I.turned (t' := s.toks) (fun b o hb e => eb b o hb e) f0 f1 f3 f4 f5⟩
  self := fun _ _ _ _ _ st h => wpAny_pyIter_rangeiter st h
section
variable {X : Cx} {tg : Expr}
theorem range_itS {pins : List (Addr × Obj)} {σ : St} {H : Hp} {s : Shared} {R : It → Hp → Prop} {E : Value → Shared → Prop} {lo hi c : Int} {n : Nat} {t u v : Tok} {tk : Nat} (I : Inv X pins σ H s) (hs : Builtin.Range.small lo hi c = true) (hn : Builtin.Range.rangeSize lo hi c = (n : Int))
    (q : R (Itd lo c n) H) : wpAny (model X.prog X.w) X.A (pyIter (.ref s.heap.objs.size)) (PIE X pins σ tg R) E { s with heap := s.heap.push { cls := .type "range", data := .fields #[.int lo t, .int hi u, .int c v] }, toks := tk } := by
  refine wpAny_pyIter_range (IsRange.new ..) hs ?_
  have I1 : Inv X pins σ H { s with heap := s.heap.push { cls := .type "range", data := .fields #[.int lo t, .int hi u, .int c v] }, toks := tk } := I.kept fun b o e => Heap.get?_push_of_some _ e
  refine ⟨(s.heap.push { cls := .type "range", data := .fields #[.int lo t, .int hi u, .int c v] }).objs.size, [(s.heap.push { cls := .type "range", data := .fields #[.int lo t, .int hi u, .int c v] }).objs.size], _, _, H, rfl,
    I1.kept (t' := tk) fun b o e => Heap.get?_push_of_some _ e, turn_rangeS _ lo c n, ?_, fun b hb => ?_, q⟩
  · show IsRangeIter _ _ (lo + ((0 : Nat) : Int) * c) ((n : Int) - ((0 : Nat) : Int)) c
    rw [show lo + ((0 : Nat) : Int) * c = lo by simp, show (n : Int) - ((0 : Nat) : Int) = Builtin.Range.rangeSize lo hi c by rw [hn]; simp]
    exact Heap.get?_push_size _ rfl
  · have e : b = (s.heap.push { cls := .type "range", data := .fields #[.int lo t, .int hi u, .int c v] }).objs.size := by simpa using hb
    subst e
    exact I1.fpOk (Nat.le_refl _) (I1.hok.fresh (Nat.le_refl _))
def iRng3 (ta : TA) : TI := fun σ H R => ta σ H fun vs H1 => ∃ i j c : Int, ∃ n : Nat, vs = [.int i, .int j, .int c] ∧ c ≠ 0 ∧ Builtin.divisionGoesByPylong (j - i) c = false ∧ Builtin.Range.small i j c = true ∧ Builtin.Range.rangeSize i j c = (n : Int) ∧ R (Itd i c n) H1
theorem pi_range3 {a b d : Expr} {ta : TA} {p pos : Pos} (hg : Gl X "range") (hm : X.mg "range" = none) (ha : PA X [a, b, d] ta) (hs : starEach [a, b, d] X.env = [(false, eval a X.env), (false, eval b X.env), (false, eval d X.env)] := by rfl) (hs2 : starEach [b, d] X.env = [(false, eval b X.env), (false, eval d X.env)] := by rfl) :
    PI X tg (.Call (.Name "range" p) [a, b, d] [] pos) (iRng3 ta) := by
  intro pins s σ H R I h
  refine Call_ (ld_blt I hg hm boot_range (PyProof.Rows.callWith_type1 (thn (ha pos pins s σ H _ I h) fun us s1 ⟨vs, H1, I1, r1, q1⟩ => ?_) (by rw [hs, hs2]) (by rw [hs2]; rfl)))
  obtain ⟨i, j, c, n, e, c0, np, sm, hn, q⟩ := q1
  subst e
  cases r1 with
  | cons r rr =>
    cases rr with
    | cons r' rr =>
      cases rr with
      | cons r'' rr =>
        cases rr
        obtain ⟨t, rfl⟩ := r
        obtain ⟨t', rfl⟩ := r'
        obtain ⟨t'', rfl⟩ := r''
        exact call_range_3 c0 (range_itS I1 sm hn q) (.inl np)
theorem for_rangeS {lo c : Int} {n : Nat} {g : TG} {tb : TS} {D : Ends} {σ : St} {H : Hp} (Pv : Nat → St → Hp → Prop) (h0 : Pv 0 σ H)
    (hs : ∀ i σ H, i < n → Pv i σ H → g (.int (lo + i * c)) σ H fun σ2 H2 => tb { D with nx := Pv (i + 1), ct := Pv (i + 1), bk := D.nx } σ2 H2) (hd : ∀ σ H, Pv n σ H → D.nx σ H) :
    ∃ W : Nat → Nat → St → Hp → Prop, (∃ m, W 0 m σ H) ∧ ∀ i m σ H, W i m σ H →
      ((Itd lo c n).stop i H ∧ D.nx σ H) ∨ ((Itd lo c n).go i H ∧ ∃ N : St → Hp → Prop, (∀ σ' H', N σ' H' → ∃ m', m' < m ∧ W (i + 1) m' σ' H') ∧ ∀ x H', (Itd lo c n).yld i H x H' → g x σ H' fun σ2 H2 => tb { D with nx := N, ct := N, bk := D.nx } σ2 H2) := by
  refine ⟨fun i m σ H => m = n - i ∧ i ≤ n ∧ Pv i σ H, ⟨n, by simp, Nat.zero_le _, h0⟩, ?_⟩
  rintro i m σ H ⟨rfl, hi, p⟩
  by_cases hlt : i < n
  · refine .inr ⟨hlt, Pv (i + 1), fun σ' H' p' => ⟨n - (i + 1), by omega, rfl, hlt, p'⟩, fun x H' y => ?_⟩
    obtain ⟨e, y⟩ := y
    subst e; subst y
    exact hs i σ _ hlt p
  · have e : i = n := by omega
    subst e
    exact .inl ⟨Nat.le_refl _, hd σ H p⟩
end
end L2
namespace L2
open PySem PySem.Spec PyProof.Rows
section
variable {X : Cx}
end
end L2
namespace HT
open PySem PySem.Spec PyProof.Rows
section
variable {prog : Program} {w : World} {A : Around} {E : Value → Shared → Prop} {s : Shared}
end
end HT
namespace L2
open PySem PySem.Spec PyProof.Rows
section
variable {X : Cx}
end
end L2
set_option Elab.async false
set_option linter.all false
set_option maxRecDepth 100000
set_option maxHeartbeats 400000
namespace Sm
open PySem L2 SmSort
def CameD (ms : List M4) (day : Int) (k : Nat) (f : Fn) (kvs : List (Key × V)) (H : Hp) : Prop :=
  ∀ o t, f o = some t → o = k ∨ ∃ tt n g turn y, valV kvs (Sum.inl (o : Int)) = some (.ref tt) ∧ H tt = some (.tup [.int ((n : Nat) : Int), .int turn, .int ((g : Nat) : Int)]) ∧ 0 ≤ turn ∧ Link ms n g o (t - turn * day) ∧ f g = some y ∧ y < t
theorem CameD.tups {ms : List M4} {day : Int} {k : Nat} {f : Fn} {kvs : List (Key × V)} {H H' : Hp} (c : CameD ms day k f kvs H) (t : Tups H H') : CameD ms day k f kvs H' := fun o x h => by
  rcases c o x h with e | ⟨tt, n, g, u, y, a1, a2, a3⟩
  · exact .inl e
  · exact .inr ⟨tt, n, g, u, y, a1, t _ _ a2, a3⟩
theorem CameD.step {ms : List M4} {day turn : Int} {k : Nat} {f : Fn} {kvs : List (Key × V)} {H : Hp} {tt : Addr} {x : W4} (c : CameD ms day k f kvs H) (t0 : 0 ≤ turn) (ho : f x.w.o = none) (hb : below (f x.w.g) (x.w.t + turn * day) = true) (hl : Link ms x.n x.w.g x.w.o x.w.t)
    (ht : H tt = some (.tup [.int (x.n : Int), .int turn, .int (x.w.g : Int)])) : CameD ms day k (put f x.w.o (some (x.w.t + turn * day))) (putK kvs (Sum.inl (x.w.o : Int)) (.ref tt)) H := fun o t h => by
  have keep : ∀ g y, f g = some y → put f x.w.o (some (x.w.t + turn * day)) g = some y := fun g y e => by rw [put_ne fun z => by rw [z, ho] at e; cases e]; exact e
  by_cases e : o = x.w.o
  · subst e
    rw [put_same] at h; cases h
    obtain ⟨y, hy, lt⟩ := below_iff.mp hb
    refine .inr ⟨tt, x.n, x.w.g, turn, y, by rw [valV_put, if_pos rfl], ht, t0, ?_, keep _ _ hy, lt⟩
    rw [show x.w.t + turn * day - turn * day = x.w.t by omega]
    exact hl
  · rw [put_ne e] at h
    rcases c o t h with e' | ⟨t2, n, g, u, y, a1, a2, a3, a4, a5, a6⟩
    · exact .inl e'
    · refine .inr ⟨t2, n, g, u, y, ?_, a2, a3, a4, keep _ _ a5, a6⟩
      rw [valV_put, if_neg fun z => e (by have := Sum.inl.inj z; omega)]
      exact a1
def M4.r3 (r : M4) : List V := [.int r.t, .int r.lo, .int r.hi]
structure SqOk (w : Int) (ms : List M4) (i : Nat) (now ahead : Int) (qs : List (M4 × M4)) : Prop where
  old : qs.map (·.1) = ms.take i
  each : ∀ q ∈ qs, q.2.lo = q.1.lo ∧ q.2.hi = q.1.hi ∧ q.2.m = q.1.m ∧ 1 ≤ q.2.t ∧ q.2.t ≤ now ∧ (q.2.t = now → q.1.t = ahead)
  ord : (qs.map (·.2)).Pairwise fun a b => a.t < b.t ∨ (a.t = b.t ∧ a.lo < b.lo ∧ apart a b)
  pos : 1 ≤ now ∨ ahead = 0
  now0 : 0 ≤ now
  most : now ≤ 16000 * i
theorem SqOk.step {w : Int} {ms : List M4} {i : Nat} {now ahead add : Int} {qs : List (M4 × M4)} (g : Good w ms) {r : M4} (hr : ms[i]? = some r) (S : SqOk w ms i now ahead qs) (h : (r.t = ahead ∧ add = 0) ∨ (r.t ≠ ahead ∧ 1 ≤ add ∧ add ≤ 16000)) :
    SqOk w ms (i + 1) (now + add) r.t (qs ++ [(r, ⟨r.lo, r.hi, now + add, r.m⟩)]) := by
  obtain ⟨a1, a2, a3, a4, a5, _⟩ := g.each r (List.mem_of_getElem? hr)
  have hn : 1 ≤ now + add := by
    rcases h with ⟨h, _⟩ | ⟨_, h, _⟩
    · rcases S.pos with p | p
      · omega
      · omega
    · have := S.now0; omega
  have n0 := S.now0
  have nm := S.most
  refine ⟨by rw [List.map_append, S.old, take_snoc hr]; rfl, fun q hq => ?_, ?_, .inl hn, by omega, by omega⟩
  · rcases List.mem_append.mp hq with hq | hq
    · obtain ⟨b1, b2, b3, b4, b5, b6⟩ := S.each q hq
      refine ⟨b1, b2, b3, b4, by omega, fun e => ?_⟩
      have e0 : add = 0 := by omega
      rw [b6 (by omega)]
      rcases h with ⟨h, _⟩ | ⟨_, h, _⟩
      · exact h.symm
      · omega
    · cases List.mem_singleton.mp hq
      exact ⟨rfl, rfl, rfl, hn, Int.le_refl _, fun _ => rfl⟩
  · rw [List.map_append, List.pairwise_append]
    refine ⟨S.ord, List.pairwise_singleton _ _, fun a ha b hb => ?_⟩
    cases List.mem_singleton.mp hb
    obtain ⟨q, hq, rfl⟩ := List.mem_map.mp ha
    obtain ⟨b1, b2, b3, b4, b5, b6⟩ := S.each q hq
    show q.2.t < now + add ∨ (q.2.t = now + add ∧ q.2.lo < r.lo ∧ apart q.2 _)
    by_cases e : q.2.t < now + add
    · exact .inl e
    · have e0 : add = 0 := by omega
      rcases h with ⟨h, _⟩ | ⟨_, h, _⟩
      · have et := b6 (by omega)
        have hq1 : q.1 ∈ ms.take i := by rw [← S.old]; exact List.mem_map.mpr ⟨q, hq, rfl⟩
        obtain ⟨j, hj⟩ := List.mem_iff_getElem?.mp hq1
        have ji : j < i := by
          have := (List.getElem?_eq_some_iff.mp hj).1
          rw [List.length_take] at this; omega
        rw [List.getElem?_take, if_pos ji] at hj
        obtain ⟨l1, e1⟩ := List.getElem?_eq_some_iff.mp hj
        obtain ⟨l2, e2⟩ := List.getElem?_eq_some_iff.mp hr
        have o := List.pairwise_iff_getElem.mp g.order j i l1 l2 ji
        rw [e1, e2] at o
        rcases o with o | ⟨_, o1, o2⟩
        · omega
        · refine .inr ⟨by omega, by omega, ?_⟩
          unfold apart at o2 ⊢
          dsimp only
          rw [b1, b2]; exact o2
      · omega
theorem SqOk.good {w : Int} {ms : List M4} {now ahead : Int} {qs : List (M4 × M4)} (g : Good w ms) (S : SqOk w ms ms.length now ahead qs) : Good w (qs.map (·.2)) ∧ ∀ m ∈ qs.map (·.2), m.t ≤ 1000000 := by
  have f := g.few
  have nm := S.most
  have hold := S.old
  rw [List.take_length] at hold
  have hl : qs.length = ms.length := by rw [← hold, List.length_map]
  refine ⟨⟨by rw [List.length_map, hl]; exact f, fun r hr => ?_, S.ord⟩, fun r hr => ?_⟩
  · obtain ⟨q, hq, rfl⟩ := List.mem_map.mp hr
    obtain ⟨b1, b2, b3, b4, b5, b6⟩ := S.each q hq
    obtain ⟨a1, a2, a3, a4, a5, a6, a7⟩ := g.each q.1 (by rw [← hold]; exact List.mem_map.mpr ⟨q, hq, rfl⟩)
    rw [b1, b2, b3]
    exact ⟨a1, a2, a3, b4, by omega, a6, a7⟩
  · obtain ⟨q, hq, rfl⟩ := List.mem_map.mp hr
    obtain ⟨b1, b2, b3, b4, b5, b6⟩ := S.each q hq
    omega
structure FallOk (n : Nat) (i : Nat) (now : Int) (ms : List M4) : Prop where
  len : ms.length = i
  each : ∀ r ∈ ms, 0 ≤ r.lo ∧ r.hi = r.lo + 1 ∧ r.hi < n ∧ 1 ≤ r.t ∧ r.t ≤ now ∧ r.m = 1
  ord : ms.Pairwise fun a b => a.t < b.t
  now0 : 0 ≤ now
  most : now ≤ 9 * i
theorem FallOk.step {n i : Nat} {now add k : Int} {ms : List M4} (F : FallOk n i now ms) (h1 : 1 ≤ add) (h2 : add ≤ 9) (k0 : 0 ≤ k) (k1 : k + 1 < n) : FallOk n (i + 1) (now + add) (ms ++ [⟨k, k + 1, now + add, 1⟩]) := by
  have n0 := F.now0
  have nm := F.most
  refine ⟨by rw [List.length_append, F.len]; rfl, fun r hr => ?_, ?_, by omega, by omega⟩
  · rcases List.mem_append.mp hr with hr | hr
    · obtain ⟨a1, a2, a3, a4, a5, a6⟩ := F.each r hr
      exact ⟨a1, a2, a3, a4, by omega, a6⟩
    · cases List.mem_singleton.mp hr
      exact ⟨k0, rfl, k1, by show 1 ≤ now + add; omega, Int.le_refl _, rfl⟩
  · rw [List.pairwise_append]
    refine ⟨F.ord, List.pairwise_singleton _ _, fun a ha b hb => ?_⟩
    cases List.mem_singleton.mp hb
    obtain ⟨a1, a2, a3, a4, a5, a6⟩ := F.each a ha
    show a.t < now + add
    omega
theorem FallOk.good {n i : Nat} {now : Int} {ms : List M4} (F : FallOk n i now ms) (h : i ≤ 60) : Good n ms ∧ ∀ m ∈ ms, m.t ≤ 1000000 := by
  have nm := F.most
  refine ⟨⟨by rw [F.len]; exact h, fun r hr => ?_, F.ord.imp fun h => .inl h⟩, fun r hr => ?_⟩
  · obtain ⟨a1, a2, a3, a4, a5, a6⟩ := F.each r hr
    exact ⟨a1, by omega, a3, a4, by omega, by omega, by omega⟩
  · obtain ⟨a1, a2, a3, a4, a5, a6⟩ := F.each r hr
    omega
theorem Good.init {w : Int} {ms : List M4} (g : Good w ms) : Good w ms.dropLast := by
  rw [List.dropLast_eq_take]
  exact ⟨by rw [List.length_take]; have := g.few; omega, fun r hr => g.each r (List.mem_of_mem_take hr), g.order.sublist (List.take_sublist _ _)⟩
theorem Good.take {w : Int} {ms : List M4} (g : Good w ms) (k : Nat) : Good w (ms.take k) :=
  ⟨by rw [List.length_take]; have := g.few; omega, fun r hr => g.each r (List.mem_of_mem_take hr), g.order.sublist (List.take_sublist _ _)⟩
end Sm
set_option Elab.async false
set_option linter.all false
set_option maxRecDepth 100000
set_option maxHeartbeats 400000
namespace L2
open PySem PySem.Spec PyProof.Rows
section
variable {X : Cx}
end
end L2
namespace Sm
open PySem L2 SmSort
end Sm
set_option Elab.async false
set_option linter.all false
set_option maxRecDepth 100000
set_option maxHeartbeats 400000
namespace Sm
open PySem L2 SmSort
structure DE (ms : List M4) (day : Int) (k : Nat) (x : Int) (E : Fn) : Prop where
  self : E k = some x
  low : ∀ i t, E i = some t → x ≤ t
  orig : ∀ i t, i ≠ k → E i = some t → ∃ u ∈ ways2 ms, ∃ turn : Int, u.o = i ∧ u.t + turn * day = t ∧ ∃ y, E u.g = some y ∧ y < t
  clos : ∀ u ∈ ways2 ms, ∀ (turn y : Int), E u.g = some y → y < u.t + turn * day → ∃ e, E u.o = some e ∧ e ≤ u.t + turn * day
section
variable {ms : List M4} {day : Int} {k k' : Nat} {x x' : Int} {E E' : Fn}
theorem DE.ind (h : DE ms day k x E) {P : Nat → Int → Prop} (h0 : P k x) (hs : ∀ u ∈ ways2 ms, ∀ (turn y : Int), u.o ≠ k → E u.g = some y → y < u.t + turn * day → E u.o = some (u.t + turn * day) → P u.g y → P u.o (u.t + turn * day)) : ∀ i t, E i = some t → P i t := by
  have key : ∀ (n : Nat) (i : Nat) (t : Int), (t - x).toNat = n → E i = some t → P i t := by
    intro n
    induction n using Nat.strongRecOn with
    | _ n ih =>
      intro i t en e
      by_cases c : i = k
      · subst c
        rw [h.self] at e; cases e
        exact h0
      · obtain ⟨u, hu, turn, rfl, rfl, y, hy, ly⟩ := h.orig i t c e
        have := h.low _ _ hy
        exact hs u hu turn y c hy ly e (ih (y - x).toNat (by omega) u.g y rfl hy)
  exact fun i t e => key _ i t rfl e
theorem DE.below (h : DE ms day k x E) {f : Fn} (cl : ∀ u ∈ ways2 ms, ∀ (turn y : Int), f u.g = some y → y < u.t + turn * day → ∃ e, f u.o = some e ∧ e ≤ u.t + turn * day) (hk : ∃ z, f k = some z ∧ z ≤ x) : ∀ i, leO (f i) (E i) := fun i t e => by
  refine h.ind (P := fun i t => ∃ z, f i = some z ∧ z ≤ t) hk (fun u hu turn y _ hy ly _ ⟨z, hz, lz⟩ => ?_) i t e
  exact cl u hu turn z hz (by omega)
theorem DE.mono (h : DE ms day k x E) (h' : DE ms day k x' E') (le : x ≤ x') : ∀ i, leO (E i) (E' i) := h'.below h.clos ⟨x, h.self, le⟩
theorem DE.set (h : DE ms day k x E) {S : Nat → Prop} (hk : S k) (cl : ∀ u ∈ ways2 ms, S u.g → S u.o) : ∀ i t, E i = some t → S i :=
  fun i t e => h.ind (P := fun i _ => S i) hk (fun u hu _ _ _ _ _ _ ih => cl u hu ih) i t e
theorem DE.shut (h : DE ms day k x E) (d1 : 1 ≤ day) : ∀ u ∈ ways2 ms, E u.g ≠ none → E u.o ≠ none := fun u hu hg => by
  obtain ⟨y, hy⟩ := Option.ne_none_iff_exists'.mp hg
  obtain ⟨e, he, _⟩ := h.clos u hu (y - u.t + 1 + (if 0 ≤ y - u.t + 1 then 0 else 0) |>.toNat : Nat) y hy (by
    have hn : y - u.t + 1 ≤ ((y - u.t + 1 + (if 0 ≤ y - u.t + 1 then 0 else 0)).toNat : Int) := by split <;> omega
    have h0 : (0 : Int) ≤ ((y - u.t + 1 + (if 0 ≤ y - u.t + 1 then 0 else 0)).toNat : Int) := Int.natCast_nonneg _
    have := Int.mul_le_mul_of_nonneg_left d1 h0
    rw [Int.mul_one] at this
    omega)
  rw [he]; exact fun z => nomatch z
theorem DE.same (h : DE ms day k x E) (h' : DE ms day k x' E') (d1 : 1 ≤ day) (i : Nat) : E i = none ↔ E' i = none := by
  have key : ∀ {E E' : Fn} {x x' : Int}, DE ms day k x E → DE ms day k x' E' → E i = none → E' i = none := fun {E E' x x'} a b e => by
    cases q : E' i with
    | none => rfl
    | some t =>
      exact absurd e (b.set (S := fun i => E i ≠ none) (by rw [a.self]; exact fun z => nomatch z) (a.shut d1) i t q)
  exact ⟨key h h', key h' h⟩
end
end Sm
set_option Elab.async false
set_option linter.all false
set_option maxRecDepth 100000
set_option maxHeartbeats 400000
namespace L2
open PySem PySem.Spec PyProof.Rows
section
variable {X : Cx} {pins : List (Addr × Obj)} {σ : St} {H : Hp} {s : Shared}
end
end L2
set_option Elab.async false
set_option linter.all false
set_option maxRecDepth 100000
set_option maxHeartbeats 400000
namespace HT
open PySem PySem.Spec PyProof.Rows
end HT
namespace L2
open PySem PySem.Spec PyProof.Rows
section
variable {X : Cx}
end
end L2
namespace Sm
open PySem L2 SmSort
def toldStep (T : Int → Option Int) (ts : List (Int × Int)) (a : Int) : List (Int × Int) := match T a with
  | none => ts
  | some y => if ts.getLast?.map (·.2) = some y then ts else ts ++ [(a, y)]
structure StepsB (T : Int → Option Int) (ts : List (Int × Int)) (b : Int) : Prop where
  head : ∃ y, ts[0]? = some (0, y)
  inc : ts.Pairwise fun p q => p.1 < q.1 ∧ p.2 < q.2
  inn : ∀ p ∈ ts, 0 ≤ p.1 ∧ p.1 < b
  val : ∀ (j : Nat) (p : Int × Int), ts[j]? = some p → ∀ s, p.1 ≤ s → s < (match ts[j + 1]? with | some q => q.1 | none => b) → T s = some p.2
theorem getLast_at {α : Type} {ts : List α} {p : α} (h : ts.getLast? = some p) : ts[ts.length - 1]? = some p := by rw [← List.getLast?_eq_getElem?]; exact h
theorem StepsB.step {T : Int → Option Int} {ts : List (Int × Int)} {a b y : Int} (S : StepsB T ts a) (ab : a < b) (flat : ∀ s, a ≤ s → s < b → T s = some y) (mono : ∀ p ∈ ts, p.2 ≤ y) : StepsB T (toldStep T ts a) b := by
  have Ta : T a = some y := flat a (Int.le_refl _) ab
  unfold toldStep
  rw [Ta]
  dsimp only
  obtain ⟨y0, h0⟩ := S.head
  have ne : ts ≠ [] := fun e => by rw [e] at h0; cases h0
  obtain ⟨l, hl⟩ : ∃ l, ts.getLast? = some l := ⟨_, List.getLast?_eq_getLast ne⟩
  have hl1 := getLast_at hl
  have hlen : 0 < ts.length := List.length_pos_iff.mpr ne
  split
  · rename_i c
    rw [hl] at c
    have c : l.2 = y := Option.some.inj c
    refine ⟨S.head, S.inc, fun p hp => ⟨(S.inn p hp).1, by have := (S.inn p hp).2; omega⟩, fun j p hj s h1 h2 => ?_⟩
    by_cases lj : j + 1 < ts.length
    · have e := S.val j p hj s h1
      rw [List.getElem?_eq_getElem lj] at e h2
      exact e h2
    · have ej : j = ts.length - 1 := by
        have := (List.getElem?_eq_some_iff.mp hj).1; omega
      subst ej
      rw [hl1] at hj; cases hj
      by_cases sa : s < a
      · have e := S.val _ l hl1 s h1
        rw [List.getElem?_eq_none (by omega)] at e
        exact e sa
      · rw [List.getElem?_eq_none (by omega)] at h2
        rw [c]; exact flat s (by omega) h2
  · rename_i c
    rw [hl] at c
    have c : l.2 ≠ y := fun e => c (by rw [← e]; rfl)
    have lt : ∀ p ∈ ts, p.1 < a ∧ p.2 < y := fun p hp => by
      refine ⟨(S.inn p hp).2, ?_⟩
      obtain ⟨j, hj⟩ := List.mem_iff_getElem?.mp hp
      have m1 := mono l (List.mem_of_getLast? hl)
      by_cases ej : j = ts.length - 1
      · rw [ej, hl1] at hj; cases hj; omega
      · have jl := (List.getElem?_eq_some_iff.mp hj).1
        obtain ⟨ll, el⟩ := List.getElem?_eq_some_iff.mp hl1
        have := (List.pairwise_iff_getElem.mp S.inc j (ts.length - 1) jl ll (by omega)).2
        rw [(List.getElem?_eq_some_iff.mp hj).2, el] at this
        omega
    refine ⟨⟨y0, by rw [List.getElem?_append_left hlen]; exact h0⟩, ?_, fun p hp => ?_, fun j p hj s h1 h2 => ?_⟩
    · rw [List.pairwise_append]
      refine ⟨S.inc, List.pairwise_singleton _ _, fun p hp q hq => ?_⟩
      cases List.mem_singleton.mp hq
      exact lt p hp
    · rcases List.mem_append.mp hp with h | h
      · have := S.inn p h; exact ⟨this.1, by omega⟩
      · cases List.mem_singleton.mp h
        have := S.inn l (List.mem_of_getLast? hl)
        exact ⟨by show 0 ≤ a; omega, ab⟩
    · rcases Nat.lt_or_ge j ts.length with lj | lj
      · rw [List.getElem?_append_left lj] at hj
        have e := S.val j p hj s h1
        rcases Nat.lt_or_ge (j + 1) ts.length with lj1 | lj1
        · rw [List.getElem?_append_left lj1, List.getElem?_eq_getElem lj1] at h2
          rw [List.getElem?_eq_getElem lj1] at e
          exact e h2
        · have ej : j + 1 = ts.length := by omega
          rw [ej, List.getElem?_append_right (Nat.le_refl _), Nat.sub_self] at h2
          rw [List.getElem?_eq_none (by omega)] at e
          exact e h2
      · have ej : j = ts.length := by
          have := (List.getElem?_eq_some_iff.mp hj).1
          rw [List.length_append, List.length_singleton] at this; omega
        subst ej
        rw [List.getElem?_append_right (Nat.le_refl _), Nat.sub_self] at hj
        cases hj
        rw [List.getElem?_eq_none (by rw [List.length_append, List.length_singleton]; omega)] at h2
        exact flat s h1 h2
theorem StepsB.first {T : Int → Option Int} {b y : Int} (hb : 0 < b) (flat : ∀ s, 0 ≤ s → s < b → T s = some y) : StepsB T (toldStep T [] 0) b := by
  unfold toldStep
  rw [flat 0 (Int.le_refl _) hb]
  dsimp only
  rw [if_neg (by rintro ⟨⟩)]
  refine ⟨⟨y, rfl⟩, List.pairwise_singleton _ _, fun p hp => ?_, fun j p hj s h1 h2 => ?_⟩
  · cases List.mem_singleton.mp hp
    exact ⟨Int.le_refl _, hb⟩
  · cases j with
    | zero => cases hj; exact flat s h1 h2
    | succ j => cases hj
theorem StepsB.all {T : Int → Option Int} {day : Int} (mono : ∀ s s', 0 ≤ s → s ≤ s' → s' < day → leO (T s) (T s')) : ∀ (as : List Int) (ts : List (Int × Int)) (a : Int),
    StepsB T ts a → (a :: as).Pairwise (· < ·) → (∀ x ∈ a :: as, x < day) → 0 ≤ a → (∀ s, 0 ≤ s → s < day → T s ≠ none) → (∀ s s', a ≤ s → s ≤ s' → s' < day → (∀ c ∈ a :: as, ¬ (s < c ∧ c ≤ s')) → T s = T s') → StepsB T (as.foldl (toldStep T) (toldStep T ts a)) day := by
  intro as
  induction as with
  | nil =>
    intro ts a S pw lt a0 some flat
    have la := lt a (.head _)
    obtain ⟨y, hy⟩ := Option.ne_none_iff_exists'.mp (some a a0 la)
    refine S.step (y := y) la (fun s h1 h2 => ?_) fun p hp => ?_
    · rw [← flat a s (Int.le_refl _) h1 h2 fun c hc => by cases List.mem_singleton.mp hc; omega]; exact hy
    · obtain ⟨j, hj⟩ := List.mem_iff_getElem?.mp hp
      have e := S.val j p hj p.1 (Int.le_refl _) (by
        have hin := S.inn p hp
        cases q : ts[j + 1]? with
        | none => exact hin.2
        | some r =>
          obtain ⟨l1, e1⟩ := List.getElem?_eq_some_iff.mp hj
          obtain ⟨l2, e2⟩ := List.getElem?_eq_some_iff.mp q
          have := (List.pairwise_iff_getElem.mp S.inc j (j + 1) l1 l2 (by omega)).1
          rw [e1, e2] at this; exact this)
      have hin := S.inn p hp
      obtain ⟨z, hz, lz⟩ := mono p.1 a hin.1 (by omega) la y hy
      rw [e] at hz; cases hz; exact lz
  | cons c as ih =>
    intro ts a S pw lt a0 some flat
    have la := lt a (.head _)
    obtain ⟨y, hy⟩ := Option.ne_none_iff_exists'.mp (some a a0 la)
    obtain ⟨p1, p2⟩ := List.pairwise_cons.mp pw
    have ac := p1 c (.head _)
    have lc := lt c (.tail _ (.head _))
    have S2 : StepsB T (toldStep T ts a) c := by
      refine S.step (y := y) ac (fun s h1 h2 => ?_) fun p hp => ?_
      · rw [← flat a s (Int.le_refl _) h1 (by omega) fun d hd => by
          rcases List.mem_cons.mp hd with rfl | hd
          · omega
          · rcases List.mem_cons.mp hd with rfl | hd
            · omega
            · have := (List.pairwise_cons.mp p2).1 d hd; omega]
        exact hy
      · obtain ⟨j, hj⟩ := List.mem_iff_getElem?.mp hp
        have e := S.val j p hj p.1 (Int.le_refl _) (by
          have hin := S.inn p hp
          cases q : ts[j + 1]? with
          | none => exact hin.2
          | some r =>
            obtain ⟨l1, e1⟩ := List.getElem?_eq_some_iff.mp hj
            obtain ⟨l2, e2⟩ := List.getElem?_eq_some_iff.mp q
            have := (List.pairwise_iff_getElem.mp S.inc j (j + 1) l1 l2 (by omega)).1
            rw [e1, e2] at this; exact this)
        have hin := S.inn p hp
        obtain ⟨z, hz, lz⟩ := mono p.1 a hin.1 (by omega) la y hy
        rw [e] at hz; cases hz; exact lz
    show StepsB T (as.foldl (toldStep T) (toldStep T (toldStep T ts a) c)) day
    exact ih _ c S2 p2 (fun x hx => lt x (.tail _ hx)) (by omega) some fun s s' h1 h2 h3 h4 => flat s s' (by omega) h2 h3 fun d hd => by
      rcases List.mem_cons.mp hd with rfl | hd
      · omega
      · exact h4 d hd
end Sm
set_option Elab.async false
set_option linter.all false
set_option maxRecDepth 100000
set_option maxHeartbeats 400000
namespace Sm
open PySem L2 SmSort
def whenOf (ms : List M4) (j : Int) : Int := ((ms[j.toNat]?).map (·.t)).getD 0
def whens (ms : List M4) (k : Nat) : List Int := (numsTo ms k ms.length).map (whenOf ms)
section
variable {n k w : Nat} {ms : List M4} {day : Int}
end
def nextOf (ts : List (Int × Int)) (b : Int) (k : Nat) : Int := match ts[k + 1]? with
  | some q => q.1
  | none => b
theorem StepsB.next {T : Int → Option Int} {ts : List (Int × Int)} {b : Int} (S : StepsB T ts b) {k : Nat} {p : Int × Int} (h : ts[k]? = some p)   : p.1 < nextOf ts b k := by
  unfold nextOf
  cases q : ts[k + 1]? with
  | none => exact (S.inn p (List.mem_of_getElem? h)).2
  | some r =>
    obtain ⟨l1, e1⟩ := List.getElem?_eq_some_iff.mp h
    obtain ⟨l2, e2⟩ := List.getElem?_eq_some_iff.mp q
    have := (List.pairwise_iff_getElem.mp S.inc k (k + 1) l1 l2 (by omega)).1
    rw [e1, e2] at this; exact this
theorem StepsB.most {T : Int → Option Int} {ts : List (Int × Int)} {b : Int} (S : StepsB T ts b) {k : Nat} {p : Int × Int} (h : ts[k]? = some p)   : nextOf ts b k ≤ b := by
  unfold nextOf
  cases q : ts[k + 1]? with
  | none => exact Int.le_refl _
  | some r => have := (S.inn r (List.mem_of_getElem? q)).2; dsimp only; omega
theorem StepsB.at' {T : Int → Option Int} {ts : List (Int × Int)} {b : Int} (S : StepsB T ts b) {k : Nat} {p : Int × Int} (h : ts[k]? = some p) {s : Int} (h1 : p.1 ≤ s) (h2 : s < nextOf ts b k) : T s = some p.2 := S.val k p h s h1 h2
end Sm
set_option Elab.async false
set_option linter.all false
set_option maxRecDepth 100000
set_option maxHeartbeats 400000
namespace L2
open PySem PySem.Spec PyProof.Rows
def Eqv (K : PySem.W.Frag) (H : Hp) : Nat → V → V → Bool → Prop
  | 0, x, y, b => (x = y ∧ (∃ a, x = .ref a) ∧ b = true) ∨ (flatV x = true ∧ flatV y = true ∧ b = eqV x y)
  | n + 1, x, y, b => (x = y ∧ (∃ a, x = .ref a) ∧ b = true) ∨ (flatV x = true ∧ flatV y = true ∧ b = eqV x y) ∨ ∃ (a c : Addr) (xs ys : List V) (e : Nat → Bool), x = .ref a ∧ y = .ref c ∧ ((SqL K H a xs ∧ SqL K H c ys) ∨ (SqT K H a xs ∧ SqT K H c ys)) ∧ (a = c → b = true) ∧ b = (decide (xs.length = ys.length) && (List.range xs.length).all e) ∧ ∀ (i : Nat) (x y : V), xs[i]? = some x → ys[i]? = some y → Eqv K H n x y (e i)
section
variable {X : Cx} {pins : List (Addr × Obj)} {σ : St} {H : Hp} {s : Shared}
end
theorem Eqv.rows {α : Type} [DecidableEq α] {f : α → V} (hf : ∀ x, flatV (f x) = true) (he : ∀ x y, eqV (f x) (f y) = decide (x = y)) {K : PySem.W.Frag} {H : Hp} {n : Nat} {a c : Addr} {xs ys : List α} (h : (H a = some (.lst (xs.map f)) ∧ H c = some (.lst (ys.map f))) ∨ (H a = some (.tup (xs.map f)) ∧ H c = some (.tup (ys.map f)))) : Eqv K H (n + 1) (.ref a) (.ref c) (decide (xs = ys)) := by
  have fi : ∀ x y, f x = f y → x = y := fun x y e => by
    have := he x y
    rw [e, he y y] at this
    simpa using this.symm
  have inj : ∀ {l m : List α}, l.map f = m.map f → l = m := fun {l m} e => List.map_inj_right (fun x y => fi x y) |>.mp e
  refine .inr (.inr ⟨a, c, xs.map f, ys.map f, fun i => decide (xs[i]? = ys[i]?), rfl, rfl, h.imp (fun h => ⟨SqL.of h.1, SqL.of h.2⟩) (fun h => ⟨SqT.of h.1, SqT.of h.2⟩), fun e => ?_, ?_, fun i x y hx hy => ?_⟩)
  · subst e
    rw [decide_eq_true_eq]
    rcases h with ⟨h1, h2⟩ | ⟨h1, h2⟩
    · rw [h1] at h2
      injection h2 with h2; injection h2 with h2; exact inj h2
    · rw [h1] at h2
      injection h2 with h2; injection h2 with h2; exact inj h2
  · rw [List.length_map, List.length_map]
    by_cases hl : xs.length = ys.length
    · rw [decide_eq_true hl, Bool.true_and]
      symm
      refine all_range ?_
      simp only [decide_eq_true_eq]
      constructor
      · intro h
        apply List.ext_getElem?
        intro j
        by_cases hj : j < xs.length
        · exact h j hj
        · rw [List.getElem?_eq_none (by omega), List.getElem?_eq_none (by omega)]
      · rintro rfl j _; rfl
    · rw [decide_eq_false hl, Bool.false_and, decide_eq_false_iff_not]
      rintro rfl; exact hl rfl
  · rw [List.getElem?_map] at hx hy
    cases e1 : xs[i]? with
    | none => rw [e1] at hx; cases hx
    | some p =>
      cases e2 : ys[i]? with
      | none => rw [e2] at hy; cases hy
      | some q =>
        rw [e1] at hx; rw [e2] at hy
        cases hx; cases hy
        have key : flatV (f p) = true ∧ flatV (f q) = true ∧ decide (some p = some q) = eqV (f p) (f q) := ⟨hf p, hf q, by
          rw [he]
          simp⟩
        cases n with
        | zero => exact .inr (by simpa only [e1, e2] using key)
        | succ n => exact .inr (.inl (by simpa only [e1, e2] using key))
end L2
set_option Elab.async false
set_option linter.all false
set_option maxRecDepth 100000
set_option maxHeartbeats 400000
namespace Sm
open PySem L2 SmSort
structure Loose (w : Int) (ms : List M4) : Prop where
  few : ms.length ≤ 60
  each : ∀ r ∈ ms, 0 ≤ r.lo ∧ r.lo < r.hi ∧ r.hi < w ∧ 1 ≤ r.t ∧ r.t ≤ 1000000000 ∧ 1 ≤ r.m ∧ r.m ≤ 99
  pw : ms.Pairwise fun a b => a.t = b.t → apart a b
theorem Good.loose {w : Int} {ms : List M4} (g : Good w ms) : Loose w ms := ⟨g.few, g.each, g.order.imp fun h e => by
  rcases h with h | h
  · omega
  · exact h.2.2⟩
theorem Loose.sub {w : Int} {ms ns : List M4} (g : Loose w ms) (h : ns.Sublist ms) : Loose w ns := ⟨Nat.le_trans h.length_le g.few, fun r hr => g.each r (h.subset hr), g.pw.sublist h⟩
theorem Loose.snoc {w : Int} {ms : List M4} {m : M4} (g : Loose w ms) (l : ms.length < 60) (e : 0 ≤ m.lo ∧ m.lo < m.hi ∧ m.hi < w ∧ 1 ≤ m.t ∧ m.t ≤ 1000000000 ∧ 1 ≤ m.m ∧ m.m ≤ 99) (h : ∀ r ∈ ms, r.t = m.t → apart r m) : Loose w (ms ++ [m]) := by
  refine ⟨by rw [List.length_append, List.length_singleton]; omega, fun r hr => ?_, ?_⟩
  · rcases List.mem_append.mp hr with hr | hr
    · exact g.each r hr
    · cases List.mem_singleton.mp hr; exact e
  · rw [List.pairwise_append]
    refine ⟨g.pw, List.pairwise_singleton _ _, fun a ha b hb => ?_⟩
    cases List.mem_singleton.mp hb
    exact h a ha
theorem late0 (r : M4) : r.late 0 = r := by unfold M4.late; rw [Int.add_zero]
theorem Loose.good {w : Int} {fs qs : List (Addr × M4)} (g : Loose w (fs.map (·.2))) (p : qs.Perm fs) (s : qs.Pairwise fun a b => lx b.2.row a.2.row = false) : Good w (qs.map (·.2)) := by
  have F : FOk w 1000000000 (fs.map (·.2.lo) ++ fs.map (·.2.hi)) fs := ⟨fun a ha => g.each _ (List.mem_map.mpr ⟨a, ha, rfl⟩), List.pairwise_map.mp g.pw, fun a ha _ => ⟨List.mem_append_left _ (List.mem_map.mpr ⟨a, ha, rfl⟩), List.mem_append_right _ (List.mem_map.mpr ⟨a, ha, rfl⟩)⟩⟩
  have := F.good (l := 0) (by have := g.few; rw [List.length_map] at this; exact this) (Int.le_refl _) (fun _ => by decide) p s
  simpa only [late0] using this
def Lsr (a b : Option Int) (m : Int) : Prop := (a = some m ∨ b = some m) ∧ (∀ y, a = some y → m ≤ y) ∧ ∀ y, b = some y → m ≤ y
theorem Lsr.parts {a b : Option Int} {m : Int} (h : Lsr a b m) (ne : a ≠ b) : (upto a m != upto b m) = true := by
  obtain ⟨h1, h2, h3⟩ := h
  rcases h1 with rfl | rfl
  · cases b with
    | none => simp [upto]
    | some y => have := h3 y rfl; have n : m ≠ y := fun e => ne (by rw [e]); simp [upto]; omega
  · cases a with
    | none => simp [upto]
    | some y => have := h2 y rfl; have n : m ≠ y := fun e => ne (by rw [e]); simp [upto]; omega
def ListAt (H : Hp) (l : Addr) (fs : List (Addr × M4)) : Prop := H l = some (.lst (fs.map fun a => V.ref a.1)) ∧ RowsAt H fs
theorem ListAt.same {H H' : Hp} {l : Addr} {fs : List (Addr × M4)} (h : ListAt H l fs) (s : Same H H') : ListAt H' l fs := ⟨s _ _ h.1, h.2.tups (Tups.same s)⟩
theorem ListAt.go {p : Addr} {H H' : Hp} {l : Addr} {fs : List (Addr × M4)} (h : ListAt H l fs) (pu : Purse H p) (n : l ≠ p) (s : Go p H H') : ListAt H' l fs := ⟨s.1 _ _ n h.1, h.2.tups (s.tups pu)⟩
end Sm
namespace Sm
open PySem L2 SmSort
end Sm
set_option Elab.async false
set_option linter.all false
set_option maxRecDepth 100000
set_option maxHeartbeats 400000
namespace L2
open PySem PySem.Spec PyProof.Rows
section
variable {P : Program} {w : World} {H H' : Hp} {h : Heap} {a : Addr} {o : HO}
theorem ObjOk.has (x : ObjOk P w H h a o) : ∃ u, h.get? a = some u := by
  cases o with
  | lst xs => obtain ⟨_, _, _, _, e⟩ := x; exact ⟨_, e⟩
  | tup xs => obtain ⟨_, _, _, u, e, _⟩ := x; exact ⟨u, e⟩
  | dK kvs => obtain ⟨_, _, _, _, u, _, _, e, _⟩ := x; exact ⟨u, e⟩
  | dT kvs => obtain ⟨_, _, _, _, u, _, _, e, _⟩ := x; exact ⟨u, e⟩
  | set S n => obtain ⟨u, _, _, _, e, _⟩ := x; exact ⟨u, e⟩
  | ins C dx fs => obtain ⟨_, _, _, e, _⟩ := x; exact ⟨_, e⟩
  | own y => exact x
  | xd fs => obtain ⟨_, ⟨u, _, _, e, _⟩, _⟩ := x; exact ⟨u, e⟩
  | rng lo hi => obtain ⟨_, _, _, e⟩ := x; exact ⟨_, e⟩
  | frz ob u => obtain ⟨e, _⟩ := x; exact ⟨_, e⟩
  | tbl ps => exact ⟨_, (show h.get? a = some _ from x)⟩
  | met f y => exact ⟨_, (show h.get? a = some _ from x)⟩
  | ext φ => exact x.2.1
end
structure XL (P : Program) (w : World) (l : List Env) (H : Hp) (s : Shared) (H' : Hp) (B : Heap) (s' : Shared) : Prop where
  os : s'.os = s.os
  bare : AllBare s'.gens
  keepB : ∀ b o, s.heap.get? b = some o → H b = none → b ∉ frs l → B.get? b = some o
  allB : ∀ b o, s.heap.get? b = some o → b ∉ frs l → ∃ o', B.get? b = some o'
  trkB : ∀ b u, H' b = some u → ∃ o, B.get? b = some o
  frm : ∀ b o, s.heap.get? b = some o → b ∈ frs l → ∃ sl, s'.heap.get? b = some { o with slots := sl }
  free : ∀ b o, s.heap.get? b = some o → H b = none → H' b = none
  tups : ∀ b xs, H b = some (.tup xs) → H' b = some (.tup xs)
  frzs : ∀ b o u, H b = some (.frz o u) → H' b = some (.frz o u)
  tbls : ∀ b ps, H b = some (.tbl ps) → ∃ more, H' b = some (.tbl (ps ++ more))
  hok : HOk P w H' s'.heap
  stays : B.StaysIn s'.heap
section
variable {P : Program} {w : World} {l : List Env} {H H' : Hp} {s s' : Shared} {B base : Heap}
theorem XL.un (x : XL P w l H s H' B s') : Un (frs l) [] H H' s.heap s'.heap where
  keep := fun b o e n hb _ => x.stays _ _ (x.keepB b o e n hb)
  slot := fun b o e n hb _ => x.frm b o e hb
  free := fun b o e n _ => x.free b o e n
  there := fun b o e _ => by
    by_cases hb : b ∈ frs l
    · obtain ⟨sl, q⟩ := x.frm b o e hb; exact ⟨_, q⟩
    · obtain ⟨o', q⟩ := x.allB b o e hb; exact ⟨o', x.stays _ _ q⟩
  tups := x.tups
  frzs := x.frzs
  tbls := x.tbls
theorem XL.step {h2 : Heap} (x : XL P w l H s H' B s') (ff : s.heap.FunFrames base l) (k : B.StaysIn h2) (u : s'.heap.UpToSlots h2) : XL P w l H s H' B { s' with heap := h2 } where
  os := x.os
  bare := x.bare
  keepB := x.keepB
  allB := x.allB
  trkB := x.trkB
  frm := fun b o e hb => by
    obtain ⟨sl, q⟩ := x.frm b o e hb
    obtain ⟨_, o1, e1, nf⟩ := ff.mem hb
    rw [e] at e1; cases e1
    obtain ⟨sl2, q2⟩ := u b _ q nf
    exact ⟨sl2, q2⟩
  free := x.free
  tups := x.tups
  frzs := x.frzs
  tbls := x.tbls
  hok := fun a o e => by
    have st : ∀ b v, H' b = some v → ∀ ob, s'.heap.get? b = some ob → h2.get? b = some ob := fun b v hv ob q => by
      obtain ⟨o1, e1⟩ := x.trkB b v hv
      have z := x.stays _ _ e1
      rw [q] at z; cases z
      exact k _ _ e1
    refine (x.hok a o e).stay (fun b v hb q => ?_) (fun _ q => q) fun _ _ q => q
    rcases hb with rfl | hb
    · exact st _ _ e _ q
    · exact st _ _ hb _ q
  stays := k
end
def TrD (h B : Heap) (e : Addr) (cls fl : Value) : Prop := ∃ oe vs T oT ts, h.get? e = some oe ∧ oe.cls = cls ∧ oe.dict = none ∧ oe.data = .fields vs ∧ vs[1]? = some (Value.ref T) ∧ B.get? T = none ∧ T ≠ e ∧ h.get? T = some oT ∧ oT.data = .fields ts ∧ ts[3]? = some fl
def MdD (h : Heap) (e : Addr) (cls : Value) : Prop := ∃ oe vs, h.get? e = some oe ∧ oe.cls = cls ∧ oe.dict = none ∧ oe.data = .fields vs ∧ vs[1]? = some Value.none
def CXE (P : Program) (w : World) : CXT := fun l H s E e s' => ∃ a cls H' B, e = Value.ref a ∧ XL P w l H s H' B s' ∧ B.get? a = none ∧ s'.heap.FunFrames B l ∧ TrD s'.heap B a cls Value.none ∧ E cls none H'
theorem passN {P : Program} {w : World} {X : Cx} : Passes (CXE P w) X E0 := fun _ _ _ _ _ _ _ ⟨_, _, _, _, _, _, _, _, _, q⟩ => q.elim
def FlyS (B : Heap) (env : Env) (outer : List Env) (a : Addr) (cls : Value) (h : Heap) : Prop :=
  B.get? a = none ∧ h.FunFrames B (env :: outer) ∧ (MdD h a cls ∨ TrD h B a cls Value.none ∨ ∃ L, env.frame = some L ∧ TrD h B a cls (rawInt L))
def WX (X : Cx) (E : XK) : Value → Shared → Prop := fun e s' => (X.A.frames = some (X.env :: X.outer) ∧ X.env.frame = some X.env.locals ∧ X.s₀.heap.FunFrames X.base X.outer) ∧ ∃ a cls H' B, e = Value.ref a ∧ XL X.prog X.w X.outer X.H₀ X.s₀ H' B s' ∧ FlyS B X.env X.outer a cls s'.heap ∧ E cls none H'
abbrev Cx.exc (X : Cx) (E : XK) : Cx := X.wish (WX X E)
theorem rec_far {h B : Heap} {T : Addr} {oT : Obj} {ts : Array Value} (hT : h.get? T = some oT) (hdT : oT.data = .fields ts) : ∀ b o, h.get? b = some o → (∀ vs, o.data ≠ .fields vs) → b ≠ T := fun b o e nf z => by
  subst z; rw [hT] at e; cases e; exact nf _ hdT
theorem laid_entry {g B : Heap} {e : Addr} {oe : Obj} {vs ts : Array Value} {fl : Value} (he : g.get? e = some oe) (hdc : oe.dict = none) (hd : oe.data = .fields vs) (sz : 1 < vs.size) (kb : B.StaysIn g) (h3 : ts[3]? = some fl) :
    (∀ b o, b ≠ e → g.get? b = some o → ((g.push { cls := .type "traceback", dict := none, data := .fields ts }).update e (Obj.mapFields (·.setIfInBounds 1 (Value.ref g.objs.size)))).get? b = some o) ∧
    TrD ((g.push { cls := .type "traceback", dict := none, data := .fields ts }).update e (Obj.mapFields (·.setIfInBounds 1 (Value.ref g.objs.size)))) B e oe.cls fl := by
  have he2 := Heap.get?_push_of_some (h := g) { cls := .type "traceback", dict := none, data := .fields ts } he
  have ne : g.objs.size ≠ e := fun z => absurd (Heap.lt_size he) (by rw [z]; exact Nat.lt_irrefl _)
  have hd3 := Obj.data_mapFields hd (·.setIfInBounds 1 (Value.ref g.objs.size))
  refine ⟨fun b o nb eb => ?_, _, _, g.objs.size, { cls := .type "traceback", dict := none, data := .fields ts }, ts, Heap.get?_update_self _ he2 (Obj.isFreed_of_fields hd3), Obj.cls_mapFields _ _, ?_, hd3, by simp [sz], kb.fresh, ne, ?_, rfl, h3⟩
  · rw [Heap.get?_update_other _ _ (Ne.symm nb)]; exact Heap.get?_push_of_some _ eb
  · obtain ⟨c0, d0, dt0, sl0⟩ := oe
    cases dt0 <;> first | exact hdc | cases hd
  · rw [Heap.get?_update_other _ _ (Ne.symm ne)]; exact Heap.get?_push_size g rfl
section
variable {M : Model} {A : Around} {Ex : Value → Shared → Prop} {s : Shared} {B : Heap} {env : Env} {outer : List Env} {a L : Addr} {cls : Value} {Q : Unit → Shared → Prop}
theorem entry_fly {oe : Obj} {vs : Array Value} {head : Value} {hn : Bool} (hfr : A.frames = some (env :: outer)) (hf : env.frame = some L) (hk : B.StaysIn s.heap) (hl : s.heap.FunFrames B (env :: outer)) (nb : B.get? a = none) (he : s.heap.get? a = some oe) (hdc : oe.dict = none) (hd : oe.data = .fields vs) (sz : 1 < vs.size)
    (q : ∀ h', B.StaysIn h' → s.heap.UpToSlots h' → h'.FunFrames B (env :: outer) → TrD h' B a oe.cls (rawInt L) → Q () { s with heap := h' }) :
    wpAny M A (do let v ← frameOf env; let pl ← entryPlaceOf L hn; let b ← EntryCells.newEntry head v .none (rawInt L) .none pl; setField (.ref a) 1 b) Q Ex s := by
  have nf : a ∉ (env :: outer).filterMap (·.frame) := fun hm => by
    obtain ⟨_, o, ho, z⟩ := hl.mem hm
    rw [he] at ho; cases ho; exact z vs hd
  refine wpAny_bind (wpAny_frameOf_fun hfr hl hf fun g sl => wpAny_bind (wpAny_entryPlaceOf fun pl ip => ?_))
  unfold EntryCells.newEntry newFields
  refine wpAny_bind (wpAny_newObj_type ?_ (ip.sizeOk5 _ _ _ _ _))
  have eg : g.get? a = some oe := (sl.2.1 a nf).trans he
  have kg : B.StaysIn g := fun b o e => (sl.2.1 b fun hm => by rw [(hl.mem hm).1] at e; cases e).trans (hk b o e)
  refine wpAny_setField (Heap.get?_push_of_some _ eg) hd sz ?_
  have y := laid_entry (B := B) (fl := rawInt L) (ts := ([head, Value.ref L, Value.none, rawInt L, Value.none] ++ (if pl.isEmpty then List.replicate 6 Value.none else pl)).toArray) eg hdc hd sz kg (by first | (simp; done) | (rcases ip with rfl | ⟨_, _, _, _, _, _, _, rfl⟩ <;> simp))
  have far := rec_far (B := B) he hd
  refine q _ (fun b o e => y.1 b o (fun z => by rw [z, nb] at e; cases e) (kg b o e)) (fun b o e nf => ?_) (hl.of_keeps fun b o e nf => ?_) y.2
  · obtain ⟨s2, e2⟩ := sl.2.2 b o e
    exact ⟨s2, y.1 b _ (far b o e nf) e2⟩
  · obtain ⟨s2, e2⟩ := sl.2.2 b o e
    exact ⟨_, y.1 b _ (far b o e nf) e2, rfl⟩
theorem set_entry {B : Heap} {h : Heap} {cls fl fl2 : Value} {oe oT : Obj} {vs ts : Array Value} {T : Addr} (he : h.get? a = some oe) (hc : oe.cls = cls) (hdc : oe.dict = none) (hd : oe.data = .fields vs) (h1 : vs[1]? = some (Value.ref T)) (hnT : B.get? T = none) (hTe : T ≠ a) (hT : h.get? T = some oT) (hdT : oT.data = .fields ts) (sz : 3 < ts.size) (hk : B.StaysIn h) (hl : h.FunFrames B (env :: outer)) :
    B.StaysIn (h.update T (Obj.mapFields (·.setIfInBounds 3 fl2))) ∧ h.UpToSlots (h.update T (Obj.mapFields (·.setIfInBounds 3 fl2))) ∧ (h.update T (Obj.mapFields (·.setIfInBounds 3 fl2))).FunFrames B (env :: outer) ∧ TrD (h.update T (Obj.mapFields (·.setIfInBounds 3 fl2))) B a cls fl2 ∧ (h.update T (Obj.mapFields (·.setIfInBounds 3 fl2))).get? a = some oe := by
  have far : ∀ b, b ≠ T → (h.update T (Obj.mapFields (·.setIfInBounds 3 fl2))).get? b = h.get? b := fun b hb => Heap.get?_update_other _ _ (Ne.symm hb)
  have nrec := rec_far (B := B) hT hdT
  have ea := (far a (Ne.symm hTe)).trans he
  exact ⟨fun b o e => (far b (fun z => by subst z; rw [hnT] at e; cases e)).trans (hk _ _ e), fun b o e nf => ⟨o.slots, (far b (nrec b o e nf)).trans e⟩, hl.of_keeps fun b o e nf => ⟨o, (far b (nrec b o e nf)).trans e, rfl⟩,
    ⟨oe, vs, T, _, _, ea, hc, hdc, hd, h1, hnT, hTe, Heap.get?_update_self _ hT (Obj.isFreed_of_fields (Obj.data_mapFields hdT _)), Obj.data_mapFields hdT _, by simp [sz]⟩, ea⟩
theorem note_fly (hfr : A.frames = some (env :: outer)) (hf : env.frame = some L) (hk : B.StaysIn s.heap) (x : FlyS B env outer a cls s.heap)
    (q : ∀ h', B.StaysIn h' → s.heap.UpToSlots h' → h'.FunFrames B (env :: outer) → TrD h' B a cls (rawInt L) → Q () { s with heap := h' }) : wpAny M A (noteFrame (.ref a) env) Q Ex s := by
  obtain ⟨hn, hl, ⟨oe, vs, he, hc, hdc, hd, h1⟩ | ⟨oe, vs, T, oT, ts, he, hc, hdc, hd, h1, hnT, hTe, hT, hdT, h3⟩ | ⟨L', hL, ht⟩⟩ := x
  · subst hc
    unfold noteFrame
    rw [hf]
    dsimp only
    refine wpAny_bind (wpAny_field (x := _) he hd h1 ?_)
    rw [if_neg (by decide)]
    exact entry_fly hfr hf hk hl hn he hdc hd (Array.getElem?_eq_some_iff.mp h1).1 q
  · have sz : 3 < ts.size := (Array.getElem?_eq_some_iff.mp h3).1
    obtain ⟨k2, u2, l2, _, e2⟩ := set_entry (fl := Value.none) (fl2 := Value.none) he hc hdc hd h1 hnT hTe hT hdT sz hk hl
    unfold noteFrame
    rw [hf]
    dsimp only
    refine wpAny_bind (wpAny_field (x := _) he hd h1 ?_)
    rw [if_pos (by simp)]
    refine wpAny_bind (wpAny_field (x := _) hT hdT h3 ?_)
    rw [if_neg (by simp [rawInt])]
    refine wpAny_bind (wpAny_setField hT hdT sz ?_)
    subst hc
    exact entry_fly hfr hf k2 l2 hn e2 hdc hd (Array.getElem?_eq_some_iff.mp h1).1 fun h' y1 y2 y3 y4 => q h' y1 (u2.trans y2) y3 y4
  · cases hL.symm.trans hf
    obtain ⟨oe, vs, T, oT, ts, he, hc, hdc, hd, h1, hnT, hTe, hT, hdT, h3⟩ := id ht
    unfold noteFrame
    rw [hf]
    dsimp only
    refine wpAny_bind (wpAny_field (x := _) he hd h1 ?_)
    rw [if_pos (by simp)]
    refine wpAny_bind (wpAny_field (x := _) hT hdT h3 ?_)
    rw [if_pos (by simp)]
    exact wpAny_pure (q s.heap hk (Heap.UpToSlots.refl _) hl ht)
theorem mark_fly {fl : Value} {fo : Option Addr} (hk : B.StaysIn s.heap) (hl : s.heap.FunFrames B (env :: outer)) (ht : TrD s.heap B a cls fl)
    (q : ∀ h', B.StaysIn h' → s.heap.UpToSlots h' → h'.FunFrames B (env :: outer) → TrD h' B a cls (fo.elim Value.none fun f => rawInt f) → Q () { s with heap := h' }) : wpAny M A (setFlight (.ref a) fo) Q Ex s := by
  obtain ⟨oe, vs, T, oT, ts, he, hc, hdc, hd, h1, hnT, hTe, hT, hdT, h3⟩ := ht
  have sz : 3 < ts.size := (Array.getElem?_eq_some_iff.mp h3).1
  obtain ⟨k2, u2, l2, t2, e2⟩ := set_entry (fl := fl) (fl2 := fo.elim Value.none fun f => rawInt f) he hc hdc hd h1 hnT hTe hT hdT sz hk hl
  unfold setFlight
  refine wpAny_bind (wpAny_field (x := _) he hd h1 ?_)
  rw [if_pos (by simp)]
  exact wpAny_setField hT hdT sz (q _ k2 u2 l2 t2)
end
section
variable {X : Cx} {E : XK}
theorem wx_leaves {P : Program} {w : World} {A : Around} {env : Env} {outer : List Env} {H : Hp} {s s' : Shared} {base : Heap} {L : Addr} {e : Value} {Ex : Value → Shared → Prop} (hst : A.frames = some (env :: outer)) (hf : env.frame = some L) (ff : s.heap.FunFrames base outer)
    (h : ∃ a cls H' B, e = Value.ref a ∧ XL P w outer H s H' B s' ∧ FlyS B env outer a cls s'.heap ∧ E cls none H') : wpAny (model P w) A (leaving env e) (fun _ s'' => CXE P w outer H s E e s'') Ex s' := by
  obtain ⟨a, cls, H', B, rfl, x, y, q⟩ := h
  unfold leaving
  refine wpAny_bind (note_fly hst hf x.stays y fun h1 k1 u1 l1 t1 => ?_)
  refine mark_fly k1 l1 t1 fun h2 k2 u2 l2 t2 => ?_
  exact ⟨a, cls, H', B, rfl, (x.step ff k1 u1).step ff k2 u2, y.1, l2.2.2, t2, q⟩
theorem raise_wx {pins : List (Addr × Obj)} {σ : St} {H : Hp} {s : Shared} {h' : Heap} {e : Addr} {cls : Value} {args : List Value} (hs : X.stack = X.env :: X.outer) (hf : X.env.frame = some X.env.locals) (hex : X.ex = []) (I : Inv X pins σ H s) (hx : Heap.MadeExcOf s.heap h' e cls args) (q : E cls none H) : WX X E (.ref e) { s with heap := h' } := by
  have nex : ∀ b, b ∉ X.ex := fun b hb => by rw [hex] at hb; cases hb
  have nst : ∀ b o, X.s₀.heap.get? b = some o → b ∉ X.fs → b ∉ frs X.stack := fun b o e nb hb => by
    rcases List.mem_cons.mp (I.stkSub b hb) with z | z
    · subst z; exact absurd (Nat.lt_of_lt_of_le (Heap.lt_size e) I.ok.above) (Nat.lt_irrefl _)
    · exact nb z
  obtain ⟨t, he, hnt, ht⟩ := hx.there
  have hin : ∀ env ∈ X.stack, ∀ b, env.frame = some b → b ∈ frs X.stack := fun env hm b hb => List.mem_filterMap.mpr ⟨env, hm, hb⟩
  have fr := (PySem.W.funFrames_hide I.stack hin).of_keeps (h' := h') fun b o e _ => ⟨o, hx.keeps b o e, rfl⟩
  rw [hs] at fr
  refine ⟨⟨by rw [← hs]; exact I.ok.frames, hf, I.ok.funs⟩, e, cls, H, PySem.W.hideAll s.heap (frs X.stack), rfl,
    { os := I.os
      bare := I.bare
      keepB := fun b o e n hb => PySem.W.hideAll_get _ (I.base.keep b o e n hb (nex b)) (nst b o e hb)
      allB := fun b o e hb => by
        obtain ⟨o1, e1⟩ := I.base.there b o e (nex b)
        exact ⟨o1, PySem.W.hideAll_get _ e1 (nst b o e hb)⟩
      trkB := fun b u hu => by
        obtain ⟨o1, e1⟩ := (I.hok b u hu).has
        exact ⟨o1, PySem.W.hideAll_get _ e1 fun hb => by rw [I.stkFree b hb] at hu; cases hu⟩
      frm := fun b o e hb => by
        obtain ⟨sl, e1⟩ := I.base.slot b o e (I.ok.frf b hb) hb (nex b)
        exact ⟨sl, hx.keeps _ _ e1⟩
      free := fun b o e n => I.base.free b o e n (nex b)
      tups := I.base.tups
      frzs := I.base.frzs
      tbls := I.base.tbls
      hok := I.hok.kept hx.keeps
      stays := fun b o e => hx.keeps _ _ (PySem.W.of_hideAll _ e) }, ⟨?_, by rw [← hs]; rw [hs]; exact fr, .inl ⟨_, _, he, rfl, rfl, rfl, rfl⟩⟩, q⟩
  cases z : (PySem.W.hideAll s.heap (frs X.stack)).get? e with
  | none => rfl
  | some o => have := PySem.W.of_hideAll _ z; rw [hx.new] at this; cases this
end
end L2
set_option Elab.async false
set_option linter.all false
set_option maxRecDepth 100000
set_option maxHeartbeats 400000
namespace L2
open PySem PySem.Spec PyProof.Rows
abbrev veB : List Value := [.type "ValueError", .type "Exception", .type "BaseException", .type "object"]
def xclsB (K : PySem.W.Frag) (C : Addr) : Bool :=
  PySem.W.excIn K C veB "ValueError.__new__" && (PySem.W.findIn K (.ref C) "__getattribute__" == some (some (.builtin "BaseException.__getattribute__"))) && (PySem.W.findIn K (.ref C) "__getattr__" == some none) &&
  (PySem.W.findIn K (.ref C) "__class__" == some (some (.builtin "object.__class__"))) && (PySem.W.mroIn K C (.type "object") == some true) && (PySem.W.mroIn K C (.type "BaseException") == some true) && (PySem.W.clsIn K C).isSome &&
  (PySem.W.specialIn K (.builtin "object.__class__") "__get__" == some (some (.builtin "getset_descriptor.__get__"))) && (PySem.W.takesIn K (.builtin "object.__class__") == some true)
structure XCls (K : PySem.W.Frag) (C : Addr) : Prop where
  exc : PySem.W.excIn K C veB "ValueError.__new__" = true
  ga : PySem.W.findIn K (.ref C) "__getattribute__" = some (some (.builtin "BaseException.__getattribute__"))
  gn : PySem.W.findIn K (.ref C) "__getattr__" = some none
  cl : PySem.W.findIn K (.ref C) "__class__" = some (some (.builtin "object.__class__"))
  ob : PySem.W.mroIn K C (.type "object") = some true
  bx : PySem.W.mroIn K C (.type "BaseException") = some true
  ic : (PySem.W.clsIn K C).isSome = true
  sp : PySem.W.specialIn K (.builtin "object.__class__") "__get__" = some (some (.builtin "getset_descriptor.__get__"))
  tk : PySem.W.takesIn K (.builtin "object.__class__") = some true
theorem XCls.of {K : PySem.W.Frag} {C : Addr} (h : xclsB K C = true) : XCls K C := by
  simp only [xclsB, Bool.and_eq_true, beq_iff_eq] at h
  obtain ⟨⟨⟨⟨⟨⟨⟨⟨h1, h2⟩, h3⟩, h4⟩, h5⟩, h6⟩, h7⟩, h8⟩, h9⟩ := h
  exact ⟨h1, h2, h3, h4, h5, h6, h7, h8, h9⟩
theorem XCls.find {K : PySem.W.Frag} {C : Addr} (c : XCls K C) : PySem.W.findObj K C none "__class__" = some (.bind (.builtin "getset_descriptor.__get__") (.builtin "object.__class__")) := by
  obtain ⟨cd, e⟩ := Option.isSome_iff_exists.mp c.ic
  unfold PySem.W.findObj
  rw [e, Option.bind_some, c.cl, Option.bind_some]
  simp [c.sp, c.tk]
section
open PySem.W
variable {prog : Program} {w : World} {A : Around} {E : Value → Shared → Prop} {s : Shared} {K : PySem.W.Frag} {x C : Addr} {ox : Obj} {Q : Option Value → Shared → Prop}
theorem exc_class (X : K.In s.heap) (I : PySem.W.InstAt s.heap x ox C none) (c : XCls K C) (h : Q (some (.ref C)) { s with toks := s.toks + 1 }) : wpAny (model prog w) A (getAttr? (.ref x) "__class__") Q E s := by
  obtain ⟨hh, g, d, t, os⟩ := s
  have M0 := I.type (M := model prog w)
  have M1 := looks_findIn (M := model prog w) X c.ga
  have M2 := looks_findIn (M := model prog w) X c.gn
  have M3 := looks_find (M := model prog w) X I c.find
  have M4 := looks_mroIn (M := model prog w) X c.bx
  have ne : (Value.builtin "BaseException.__getattribute__" == Value.builtin "object.__getattribute__") = false := by decide +kernel
  unfold getAttr? getAttrBy? getAttrBy
  refine wpAny_bind (wpAny_mkText (wpAny_bind (wpAny_attempt (wpAny_holding (wpAny_bind (M0.at (wpAny_bind (M1.at ?_))))))))
  dsimp only
  rw [if_neg (by rw [ne, Bool.and_false]; exact Bool.false_ne_true)]
  unfold getAttrByItsOwn hookBefore
  refine wpAny_bind (M2.at (wpAny_bind (wpAny_attempt (wpAny_holding ?_))))
  unfold callGetattribute
  rw [if_neg (by simp [onTheHeap])]
  unfold boundAndCalled
  refine wpAny_bind (wpAny_of_eq (PySem.F.excAttr_ValueError.ga.bind (.ref x)) ?_)
  refine wpAny_call (codeAny_call_builtin PySem.F.excAttr_ValueError.ga.plain PySem.F.entry_bexc_ga ?_)
  have kd : builtinKind "BaseException.__getattribute__" = some .slot := by decide +kernel
  have sp : splitId "BaseException.__getattribute__" = some ("BaseException", "__getattribute__") := by decide +kernel
  have ao := PySem.F.args_bexc_ga (.ref x) (.str "__class__" t)
  have LI : Looks (model prog w) hh (isInstance (.ref x) (.type "BaseException")) true := M0.andThen M4
  simp only [checkBuiltinCall, kd, sp]
  refine wpAny_bind (LI.at ?_)
  rw [if_neg (by decide)]
  refine wpAny_of_eq (a := ()) ao ?_
  unfold Builtin.«object.__getattribute__»
  repeat (first | refine wpAny_bind (M0.at ?_) | refine wpAny_bind (M3.at ?_) | wp_step)
  refine class_get (ox := ox) (od := none) X I c.ob ?_
  exact wpAny_pure (wpAny_pure (wpAny_pure h))
theorem kitx_exc (c : XCls K C) : KitX K (.ref x) (.ref C) (fun h => ∃ ox, PySem.W.InstAt h x ox C none) where
  ty := fun _ _ _ ⟨_, I⟩ => I.type
  it := fun _ _ X _ => by
    have q := c.ic
    unfold clsIn at q
    split at q
    · rename_i lk
      intro A' Q' E' s' kp qq
      unfold isType loadHead
      exact wpAny_bind (wpAny_loadPart (kp _ _ (X _ _ lk)) (wpAny_pure qq))
    · cases q
  ne := fun h tp dd its n sl X ht => by
    have q := c.ic
    unfold clsIn at q
    split at q
    · rename_i lk
      refine Bool.eq_false_iff.mpr fun z => ?_
      obtain rfl : C = tp := Value.ref.inj (beq_iff_eq.mp z)
      cases (X _ _ lk).symm.trans ht
    · cases q
  ca := fun X ⟨_, I⟩ k => exc_class X I c k
end
def excO (x C : Addr) : HO := .ext fun h => ∃ ox, PySem.W.InstAt h x ox C none
def vv : V → Value
  | .ref a => .ref a
  | .ty n => .type n
  | _ => .none
def isCls : V → Bool
  | .ref _ => true
  | .ty _ => true
  | _ => false
theorem vv_of {x : V} {u : Value} (h : isCls x = true) (r : RelV x u) : u = vv x := by
  cases x <;> first | exact r | cases h
theorem vv_all : ∀ {xs : List V} {us : List Value}, xs.all isCls = true → Vals xs us → us = xs.map vv
  | [], _, _, .nil => rfl
  | x :: xs, _, h, .cons r t => by
    rw [List.all_cons, Bool.and_eq_true] at h
    rw [List.map_cons, vv_of h.1 r, vv_all h.2 t]
section
variable {X : Cx} {K : PySem.W.Frag}
theorem Inv.excAt {pins : List (Addr × Obj)} {σ : St} {H : Hp} {s : Shared} {a C : Addr} (I : Inv X pins σ H s) (h : H a = some (excO a C)) : ∃ ox, PySem.W.InstAt s.heap a ox C none := (I.hok a _ h).1
theorem call_isX (hK : X.K = K) : CallR X (.builtin "isinstance") (fun xs H Q => ∃ a C c b, xs = [.ref a, c] ∧ H a = some (excO a C) ∧ XCls K C ∧ isCls c = true ∧ PySem.W.kitOne K (.ref C) (vv c) = some b ∧ Q (.bl b) H) := by
  subst hK
  intro pins s σ H xs us Q I r h
  obtain ⟨a, C, c, b, rfl, ha, xc, hc, hk, q⟩ := h
  obtain ⟨u, w', rfl, r1, r2⟩ := vals2 r
  cases r1
  cases vv_of hc r2
  exact PySem.W.kia_one (kitx_exc xc) I.kIn (I.excAt ha) hk (by intro z; cases z) fun tk => ⟨.bl _, H, I.tok tk, rfl, q⟩
theorem call_isXT (hK : X.K = K) : CallR X (.builtin "isinstance") (fun xs H Q => ∃ a C tp cs b, xs = [.ref a, .ref tp] ∧ H a = some (excO a C) ∧ XCls K C ∧ SqT K H tp cs ∧ cs.all isCls = true ∧ PySem.W.kitAny K (.ref C) (cs.map vv) = some b ∧ Q (.bl b) H) := by
  subst hK
  intro pins s σ H xs us Q I r h
  obtain ⟨a, C, tp, cs, b, rfl, ha, xc, ht, hc, hk, q⟩ := h
  obtain ⟨u, w', rfl, r1, r2⟩ := vals2 r
  cases r1; cases r2
  obtain ⟨its, rv, ⟨o, ho, hoc, n, hod⟩, _⟩ := I.tuple ht
  cases vv_all hc rv
  obtain ⟨ocl, odc, odt, osl⟩ := o
  cases hoc; cases hod
  exact PySem.W.kia_tup (kitx_exc xc) I.kIn (I.excAt ha) ho hk (by intro z; cases z) fun tk => ⟨.bl _, H, I.tok tk, rfl, q⟩
end
theorem exc_of {K : PySem.W.Frag} {h : Heap} {C : Addr} {bmB : List Value} {ni : String} (X : K.In h) (q : PySem.W.excIn K C bmB ni = true) : ∃ bm N nm qn bs hd sn sub ab col dd k0 k1 k2 k3 k5 mN,
    h.get? C = some (excClassObj nm qn C N bs bm hd sn sub ab col dd k0 k1 k2 k3 k5 ni) ∧ h.Ns N mN ∧ mN "__init__" = none ∧ OwnTail h bmB bm := by
  simp only [PySem.W.excIn] at q
  split at q
  case h_2 => cases q
  case h_1 d0 c0 z0 lk =>
    split at q
    case h_2 => cases q
    case h_1 C0 bm p0 p1 p2 p3 n0 p5 em es =>
      simp only [Bool.and_eq_true, beq_iff_eq, Bool.not_eq_true'] at q
      obtain ⟨⟨⟨⟨⟨e1, e2⟩, e3⟩, e4⟩, e5⟩, e6⟩ := q
      subst e1 e2
      have ez : z0 = #[p0, p1, p2, p3, some (.builtin n0), p5] := by rw [← es]
      have kC := X _ _ lk
      rw [ez] at kC
      rcases c0 with ⟨nm, bs, mro, ns, qn, hd, sn, sub, ab, col, del⟩
      have em' : mro = .ref C0 :: bm := em
      have e3' : del = false := e3
      subst em' e3'
      exact ⟨bm, ns, nm, qn, bs, hd, sn, sub, ab, col, d0, p0, p1, p2, p3, p5, _, kC, .of_isNs (PySem.W.isNs_of_in X e5), PySem.W.nsMap_none_of_in X e5 e6, PySem.W.tail_of_in X e4⟩
section
variable {X : Cx} {E : XK}
theorem PS.nox {st : Stmt} {t : TS} (h : PS X.nox st t) : PS X st t := fun pins s σ H D I hw =>
  wpAny_mono (h pins s σ H D (I.wish _) hw) (fun _ _ q => q.unwish) fun _ _ z => False.elim z
def tRaise (E : XK) (C : Addr) : TS := fun _ _ H => E (.ref C) none H
theorem ps_raise {x : Str} {C : Addr} {np cpos pos p1 : Pos} {t : Str} {j} (hs : X.stack = X.env :: X.outer) (hf : X.env.frame = some X.env.locals) (hex : X.ex = []) (hc : X.calm = true) (hg : Gl X x) (hm : X.mg x = some (.ref C)) (xc : XCls X.K C) (hdb : (x == ("__debug__" : Str)) = false := by decide)
    (he : starEach [Expr.Constant (.str t) j p1] X.env = [(false, eval (.Constant (.str t) j p1) X.env)] := by rfl) :
    PS (X.exc E) (.Raise (some (.Call (.Name x np) [.Constant (.str t) j p1] [] cpos)) none pos) (tRaise E C) := by
  intro pins s σ H D I0 h
  have I := I0.unwish
  obtain ⟨bm, N, nm, qn, bs, hd, sn, sub, ab, col, dd, k0, k1, k2, k3, k5, mN, kC, kN, kn, kt⟩ := exc_of I.kIn xc.exc
  refine wpAny_Raise_call_subT (env := X.env) (C := C) (nm := nm) (q := qn) (N := N) (bs := bs) (bm := bm) (hdct := hd) (sn := sn) (sub := sub) (ab := ab) (col := col) (dd := dd) (k0 := k0) (k1 := k1) (k2 := k2) (k3 := k3) (k5 := k5)
    PySem.F.excBase_ValueError (mN := mN) (kt.hasType PySem.F.excBase_ValueError.hasBase) (I.ok.hd hc) (by rw [he]; rfl) kn (ld_glob I0 hg hm ⟨rfl, ?_⟩ hdb)
  rw [he]
  refine Calls.evalArgs_plain (Calls.spliced_cons (Calls.Constant_str (pos := p1) (k := j) (Calls.spliced_nil ?_)))
  refine ⟨rfl, by show 1 ≤ sizeLine; decide, kC, kN, kt, fun h' e me => ?_⟩
  exact raise_wx (s := { s with toks := s.toks + 1 }) hs hf hex (I.tok _) me h
end
section
variable {P : Program} {w : World} {K : PySem.W.Frag} {mg : Str → Option Value} {base : Heap}
theorem Fun.okE {x qual : Str} {st : Stmt} {f : Addr} {fd : FuncData} {N ps : List Str} {k : Nat} {sp : Sp} (F : Fun K x qual st f fd) (S : FnScope N ps (defScope st)) (len : ∀ vs H Q E, sp vs H Q E → vs.length = ps.length)
    (hbody : ∀ (cdv : Value) (A : Around) (outer : List Env) (s : Shared) (H : Hp) (vs : List V) (Q : VK) (E : XK), Room k (A.deeper (envOfC qual (defScope st) s.heap.objs.size f cdv)) → sp vs H Q E →
      ∃ t, PSs ((cxOf (CXE P w) P w K mg base N qual (defScope st) f cdv A outer s H E).exc E) (defBody st) t ∧ t { nx := fun _ H' => Q .non H', rt := Q } (start N vs) H) : FnOk P w K mg base (CXE P w) (k + 1) f fd ps sp := by
  obtain ⟨oc, od, kV, doc, pm, an, cdv, ct, osl, rfl, lk, hcd⟩ := F.ex
  refine fn_of lk hcd S len fun A outer s H vs Q E hr hsp => ?_
  obtain ⟨t, h, q⟩ := hbody cdv A outer s H vs Q E hr hsp
  refine ⟨t, fun pins s1 σ H1 D I hw => ?_, q⟩
  exact wpAny_mono (h pins s1 σ H1 D (I.wish _) hw) (fun _ _ z => z.unwish) fun e s2 z => wx_leaves (base := base) I.ok.frames rfl I.ok.funs z.2
end
end L2
set_option Elab.async false
set_option linter.all false
set_option maxRecDepth 100000
set_option maxHeartbeats 400000
namespace L2
open PySem PySem.Spec PyProof.Rows
section
variable {X : Cx} {pins : List (Addr × Obj)} {σ : St} {H : Hp} {s : Shared}
theorem gone_ok {M : Model} {A : Around} {Ex : Value → Shared → Prop} {i : Nat} {x : Str} {pos : Pos} {Q : Unit → Shared → Prop} (I : Inv X pins σ H s) (hN : X.N.Nodup) (hi : X.N[i]? = some x) (hk : X.env.kindOf x = some .local)
    (h : ∀ s', Inv X pins (σ.set i none) H s' → Q () s') : wpAny M A (do bindName X.env x .none; unbindBehindTheSuite X.env x pos) Q Ex s := by
  obtain ⟨m, hn, hl⟩ := id I.loc
  have hcls : (X.env.scope.kind == .class || (X.env.scope.kind == .module && X.env.locals != X.env.globals)) = false := by rw [I.ok.kind]; rfl
  have cne := I.cne
  refine wpAny_nameGoes_keeps hk hn hcls fun h' v hn' hs => ?_
  obtain ⟨oL, _, _, hoL, _⟩ := id hn
  have far : ∀ b o, X.s₀.heap.get? b = some o → b ≠ X.env.locals := fun b o e => Nat.ne_of_lt (Nat.lt_of_lt_of_le (Heap.lt_size e) I.ok.above)
  refine h _ ⟨I.ok, I.os, I.bare, ⟨fun b o e n hb hx => ?_, fun b o e n hb hx => ?_, I.base.free, fun b o e hx => ?_, I.base.tups, I.base.frzs, I.base.tbls⟩, ⟨_, hn', fun j y v' e1 e2 e3 => ?_⟩, fun y c e => ?_, I.free, I.freeC, fun p hp => ?_, fun b ob e => ?_, by simpa using I.len⟩
  · exact (hs.2 b (far b o e)).trans (I.base.keep b o e n hb hx)
  · obtain ⟨sl, e1⟩ := I.base.slot b o e n hb hx
    exact ⟨sl, (hs.2 b (far b o e)).trans e1⟩
  · obtain ⟨o', e1⟩ := I.base.there b o e hx
    exact ⟨o', (hs.2 b (far b o e)).trans e1⟩
  · by_cases hj : j = i
    · subst hj
      have hj' : j < σ.length := by
        by_cases z : j < σ.length
        · exact z
        · rw [List.getElem?_eq_none (by rw [List.length_set]; omega)] at e2; cases e2
      rw [List.getElem?_set_self hj'] at e2; cases e2
    · rw [List.getElem?_set_ne (Ne.symm hj)] at e2
      obtain ⟨u', r', q⟩ := hl j y v' e1 e2 e3
      refine ⟨u', r', ?_⟩
      rcases q with ⟨k, e⟩ | ⟨k, c, e, z⟩
      · refine .inl ⟨k, ?_⟩
        have : y ≠ x := fun e => hj (nodup_ix hN e1 (e ▸ hi))
        simp [this, e]
      · exact .inr ⟨k, c, e, z.sameBut hs (cne y c e)⟩
  · obtain ⟨w', z⟩ := I.cell y c e
    exact ⟨w', z.sameBut hs (cne y c e)⟩
  · obtain ⟨e, n, ne, nf, d⟩ := I.pin p hp
    exact ⟨(hs.2 p.1 ne).trans e, n, ne, nf, d⟩
  · have hfree := I.free
    refine (I.hok b ob e).stay (fun c w' hc q => (hs.2 c ?_).trans q) (fun _ q => q) fun _ _ q => q
    rintro rfl
    rcases hc with rfl | hc
    · rw [hfree] at e; cases e
    · rw [hfree] at hc; cases hc
end
def Cx.hand (X : Cx) (e : Addr) : Cx := { X with A := X.A.mark (some (.ref e)), calm := false, xe := fun _ _ => False }
section
variable {X : Cx} {pins : List (Addr × Obj)} {σ : St} {H : Hp} {s : Shared} {e : Addr}
theorem Inv.hand (I : Inv X pins σ H s) (e : Addr) : Inv (X.hand e) pins σ H s :=
  ⟨⟨I.ok.mod, I.ok.kind, I.ok.glob, I.ok.blt, I.ok.above, I.ok.inj, I.ok.has, I.ok.cab, (fun z => by cases z), I.ok.frames, I.ok.stk, I.ok.exf, I.ok.bs, I.ok.bsz, I.ok.noex, I.ok.exfs, I.ok.funs, I.ok.frf⟩, I.os, I.bare, I.base, I.loc, I.cell, I.free, I.freeC, I.pin, I.hok, I.len⟩
theorem Inv.unhand (ok : X.Ok) (I : Inv (X.hand e) pins σ H s) : Inv X pins σ H s := ⟨ok, I.os, I.bare, I.base, I.loc, I.cell, I.free, I.freeC, I.pin, I.hok, I.len⟩
end
def PSx (X : Cx) (st : List Stmt) (t : XK → TS) : Prop := ∀ (pins : List (Addr × Obj)) (s : Shared) (σ : St) (H : Hp) (D : Ends) (Eh : XK) (Z : Value → Shared → Prop), Inv X pins σ H s → t Eh D σ H →
  (∀ H1 s1 e s', Inv X pins σ H1 s1 → CXE X.prog X.w X.stack H1 s1 Eh e s' → Z e s') → wpAny (model X.prog X.w) X.A (execs st X.env) (SP X pins D) Z s
section
variable {X : Cx} {k : Nat} {f : Addr} {fd : FuncData} {ps : List Str} {sp : Sp} {dvs : List V} {ds : List Value} {x : Str} {p pos cpos : Pos} {e : Expr} {es : List Expr} {t : TA}
end
def tTry (K : PySem.W.Frag) (cy : Value) (i : Nat) (tb : XK → TS) (th : TS) : TS := fun D σ H =>
  tb (fun cls _ H' => PySem.W.exmOne K cls cy = some true ∧ ∃ C, cls = Value.ref C ∧ ∀ x, H' x = none →
    th { nx := fun σ' H2 => D.nx (σ'.set i none) H2, rt := D.rt, bk := fun σ' H2 => D.bk (σ'.set i none) H2, ct := fun σ' H2 => D.ct (σ'.set i none) H2 } (σ.set i (some (.ref x))) (upd H' x (excO x C))) D σ H
section
variable {X : Cx} {K : PySem.W.Frag}
theorem ps_tryAs {body : List Stmt} {tb : XK → TS} {b₀ : Stmt} {suite : List Stmt} {y n : Str} {np hpos pos : Pos} {th : TS} {i : Nat} {cy : Value} (hK : X.K = K) (hb : PSx X body tb) (hs : X.stack = X.env :: X.outer) (hf : X.env.frame = some X.env.locals)
    (hg : Gl X y) (hm : X.mg y = some cy) (hN : X.N.Nodup) (hi : X.N[i]? = some n) (hl : X.env.kindOf n = some .local) (hh : ∀ e, PSs (X.hand e) (b₀ :: suite) th) (hdb : (y == ("__debug__" : Str)) = false := by decide) :
    PS X (.Try body [.ExceptHandler (some (.Name y np)) (some n) (b₀ :: suite) hpos] [] [] pos) (tTry K cy i tb th) := by
  subst hK
  intro pins s σ H D I h
  refine wpAny_Try_except (thn (hb pins s σ H D _ _ I h ?_) fun f s1 q => ?_)
  · intro H1 s1 e s' I1 ⟨a, cls, H', B, ee, x, nb, ff, ht, em, C, ec, q⟩
    subst ee ec
    have fr : X.A.frames = some (X.env :: X.outer) := by rw [← hs]; exact I1.ok.frames
    have ff1 := I1.stack
    rw [hs] at ff
    refine note_fly (cls := .ref C) fr hf x.stays ⟨nb, ff, .inr (.inl ht)⟩ fun h2 k2 u2 l2 t2 => ?_
    refine mark_fly (fo := none) k2 l2 t2 fun h3 k3 u3 l3 t3 => ?_
    have x3 := (x.step ff1 k2 u2).step ff1 k3 u3
    have J3 : Inv X pins σ H' { s' with heap := h3 } := I1.call' (ch := []) x3.os x3.un x3.hok x3.bare (fun b z => absurd z (by simp))
    obtain ⟨oe, vs, T, oT, ts, he, hc, _⟩ := id t3
    refine wpAny_handleBy_cons (codeAny_handlers_test (ld_glob (X := X.hand a) (J3.hand a) hg hm ?_ hdb)) (by intro z; cases z)
    have LT : PySem.W.Looks (model X.prog X.w) h3 (typeOf (.ref a)) (.ref C) := hc ▸ (PySem.W.Looks.ld he).andThen .now
    refine (PySem.W.exm_one J3.kIn LT em).here ?_
    refine codeAny_handlers_suite_as (mark_fly (fo := none) k3 l3 t3 fun h4 k4 u4 l4 t4 => ?_)
    have x4 := x3.step ff1 k4 u4
    obtain ⟨oe4, vs4, T4, oT4, ts4, he4, hc4, hdc4, hd4, _⟩ := id t4
    have na : H' a = none := by
      cases z : H' a with
      | none => rfl
      | some u => obtain ⟨o, eo⟩ := x4.trkB a u z; rw [nb] at eo; cases eo
    have nfr : a ∉ frs X.stack := fun hm => by
      rw [hs] at hm
      obtain ⟨_, o, eo, nf⟩ := l4.mem hm
      rw [he4] at eo; cases eo; exact nf _ hd4
    have un4 : Un (frs X.stack) [] H1 (upd H' a (excO a C)) s1.heap h4 :=
      { keep := x4.un.keep
        slot := x4.un.slot
        free := fun b o e n hx => by
          have nea : b ≠ a := fun z => by
            subst z
            obtain ⟨o', eo⟩ := x4.allB b o e nfr
            rw [nb] at eo; cases eo
          rw [upd_ne nea]; exact x4.un.free b o e n hx
        there := x4.un.there
        tups := fun b xs e => by have e2 := x4.tups b xs e; rw [upd_ne (ne_of_none e2 na)]; exact e2
        frzs := fun b o u e => by have e2 := x4.frzs b o u e; rw [upd_ne (ne_of_none e2 na)]; exact e2
        tbls := fun b ps e => by obtain ⟨m, e2⟩ := x4.tbls b ps e; exact ⟨m, by rw [upd_ne (ne_of_none e2 na)]; exact e2⟩ }
    have hok4 : HOk X.prog X.w (upd H' a (excO a C)) h4 := fun b u e => by
      by_cases z : b = a
      · subst z
        rw [upd_same] at e; cases e
        have mk : ∀ h : Heap, h.get? b = some oe4 → ∃ ox, PySem.W.InstAt h b ox C none := fun h eh => by
          obtain ⟨c0, d0, dt0, sl0⟩ := oe4
          cases hdc4; cases hd4
          exact ⟨_, eh, hc4, rfl, trivial⟩
        refine ⟨mk h4 he4, ⟨_, he4⟩, fun g1 g2 ⟨ox, i1⟩ kk => ⟨ox, kk _ i1.at_, i1.cls, i1.no, ?_⟩⟩
        have := i1.dict
        cases zz : ox.dict with
        | none => trivial
        | some d0 => rw [zz] at this; exact this.elim
      · rw [upd_ne z] at e
        exact (x4.hok b u e).stay (fun _ _ _ q => q) (fun c q => by rw [upd_ne (ne_of_none q na)]; exact q) fun c xs q => by rw [upd_ne (ne_of_none q na)]; exact q
    have J4 : Inv X pins σ (upd H' a (excO a C)) { s' with heap := h4 } := I1.call' (ch := []) x4.os un4 hok4 x4.bare (fun b z => absurd z (by simp))
    refine store_ok (X := X.hand a) (J4.hand a) hN hi (.inl hl) (v := .ref a) rfl (fun s5 I5 => ?_) (.inr hl)
    refine wpAny_mono (hh a pins s5 _ _ _ I5 (q a na)) (fun f s6 z => ?_) fun _ _ z => z.elim
    cases f with
    | next => obtain ⟨σ', H2, I6, q6⟩ := z; exact gone_ok (I6.unhand I.ok) hN hi hl fun s7 I7 => ⟨_, H2, I7, q6⟩
    | brk => obtain ⟨σ', H2, I6, q6⟩ := z; exact gone_ok (I6.unhand I.ok) hN hi hl fun s7 I7 => ⟨_, H2, I7, q6⟩
    | cont => obtain ⟨σ', H2, I6, q6⟩ := z; exact gone_ok (I6.unhand I.ok) hN hi hl fun s7 I7 => ⟨_, H2, I7, q6⟩
    | ret u => obtain ⟨v, σ', H2, I6, r6, q6⟩ := z; exact gone_ok (I6.unhand I.ok) hN hi hl fun s7 I7 => ⟨v, _, H2, I7, r6, q6⟩
  · cases f with
    | next => exact wpAny_execs_nil q
    | brk => exact q
    | cont => exact q
    | ret u => exact q
end
end L2
namespace L2
open PySem PySem.Spec PyProof.Rows
section
variable {X : Cx} {K : PySem.W.Frag} {e o : Expr} {es : List Expr} {to : TE} {t : TA} {T id : String} {name : Str} {apos cpos : Pos} {r : V → List V → Hp → VK → Prop}
end
end L2
set_option Elab.async false
set_option linter.all false
set_option maxRecDepth 100000
set_option maxHeartbeats 400000
namespace Sm
open PySem L2 SmSort
theorem inv_self {K : PySem.W.Frag} {t : Value} : PySem.W.kitOne K t t = some true := by
  unfold PySem.W.kitOne
  rw [if_pos (beq_self_eq_true t)]
end Sm
namespace Sm
open PySem L2 SmSort
end Sm
namespace Sm
open PySem L2 SmSort
def M4.k3 (r : M4) : Int × Int × Int := (r.lo, r.hi, r.t)
theorem Good.k3 {w : Int} {ms ks : List M4} (g : Good w ms) (e : ks.map M4.k3 = ms.map M4.k3) (hm : ∀ r ∈ ks, 1 ≤ r.m ∧ r.m ≤ 99) : Good w ks := by
  refine ⟨by have := congrArg List.length e; rw [List.length_map, List.length_map] at this; rw [this]; exact g.few, fun r hr => ?_, ?_⟩
  · have : r.k3 ∈ ms.map M4.k3 := by rw [← e]; exact List.mem_map_of_mem hr
    obtain ⟨r2, hr2, e2⟩ := List.mem_map.mp this
    simp only [M4.k3, Prod.mk.injEq] at e2
    obtain ⟨h1, h2, h3, h4, h5, _⟩ := g.each r2 hr2
    have := hm r hr
    exact ⟨by omega, by omega, by omega, by omega, by omega, this⟩
  · have o := g.order
    let R : Int × Int × Int → Int × Int × Int → Prop := fun x y => x.2.2 < y.2.2 ∨ (x.2.2 = y.2.2 ∧ x.1 < y.1 ∧ apart ⟨x.1, x.2.1, x.2.2, 0⟩ ⟨y.1, y.2.1, y.2.2, 0⟩)
    have o2 : (ms.map M4.k3).Pairwise R := List.pairwise_map.mpr o
    rw [← e] at o2
    exact List.pairwise_map.mp o2
end Sm
set_option Elab.async false
set_option linter.all false
set_option maxRecDepth 100000
set_option maxHeartbeats 400000
namespace L2
open PySem PySem.Spec PyProof.Rows
def oclsB (K : PySem.W.Frag) (C : Addr) : Bool :=
  PySem.W.plainGet K C "__class__" && PySem.W.hasDictIn K C && (PySem.W.findIn K (.ref C) "__class__" == some (some (.builtin "object.__class__"))) && (PySem.W.mroIn K C (.type "object") == some true) &&
  (PySem.W.specialIn K (.builtin "object.__class__") "__get__" == some (some (.builtin "getset_descriptor.__get__"))) && (PySem.W.takesIn K (.builtin "object.__class__") == some true)
structure OCls (K : PySem.W.Frag) (C : Addr) : Prop where
  pg : PySem.W.plainGet K C "__class__" = true
  hd : PySem.W.hasDictIn K C = true
  cl : PySem.W.findIn K (.ref C) "__class__" = some (some (.builtin "object.__class__"))
  ob : PySem.W.mroIn K C (.type "object") = some true
  sp : PySem.W.specialIn K (.builtin "object.__class__") "__get__" = some (some (.builtin "getset_descriptor.__get__"))
  tk : PySem.W.takesIn K (.builtin "object.__class__") = some true
theorem OCls.of {K : PySem.W.Frag} {C : Addr} (h : oclsB K C = true) : OCls K C := by
  simp only [oclsB, Bool.and_eq_true, beq_iff_eq] at h
  obtain ⟨⟨⟨⟨⟨h1, h2⟩, h3⟩, h4⟩, h5⟩, h6⟩ := h
  exact ⟨h1, h2, h3, h4, h5, h6⟩
def vo : V → Value
  | .ref a => .ref a
  | .ty n => .type n
  | _ => .none
def isCl : V → Bool
  | .ref _ => true
  | .ty _ => true
  | _ => false
theorem vo_of {x : V} {u : Value} (h : isCl x = true) (r : RelV x u) : u = vo x := by
  cases x <;> first | exact r | cases h
theorem vo_all : ∀ {xs : List V} {us : List Value}, xs.all isCl = true → Vals xs us → us = xs.map vo
  | [], _, _, .nil => rfl
  | x :: xs, _, h, .cons r t => by
    rw [List.all_cons, Bool.and_eq_true] at h
    rw [List.map_cons, vo_of h.1 r, vo_all h.2 t]
section
variable {X : Cx} {K : PySem.W.Frag}
theorem Inv.instAt {pins : List (Addr × Obj)} {σ : St} {H : Hp} {s : Shared} {a C dx : Addr} {fs : List (Str × V)} (I : Inv X pins σ H s) (h : H a = some (.ins C dx fs)) : ∃ od, PySem.W.InstAt s.heap a (PySem.W.instObj C dx) C (some od) := by
  obtain ⟨_, _, _, e, mA, ⟨od, _, _, e2, _⟩, _⟩ := I.hok a _ h
  exact ⟨od, e, rfl, rfl, e2⟩
theorem call_isO (hK : X.K = K) : CallR X (.builtin "isinstance") (fun xs H Q => ∃ a C dx fs c b, xs = [.ref a, c] ∧ H a = some (.ins C dx fs) ∧ OCls K C ∧ isCl c = true ∧ PySem.W.kitOne K (.ref C) (vo c) = some b ∧ Q (.bl b) H) := by
  subst hK
  intro pins s σ H xs us Q I r h
  obtain ⟨a, C, dx, fs, c, b, rfl, ha, oc, hc, hk, q⟩ := h
  obtain ⟨u, w', rfl, r1, r2⟩ := vals2 r
  cases r1
  cases vo_of hc r2
  obtain ⟨od, i⟩ := I.instAt ha
  exact PySem.W.kia_one (PySem.W.kitx_own oc.pg oc.hd oc.cl oc.sp oc.tk oc.ob) I.kIn i hk (by intro z; cases z) fun tk => ⟨.bl _, H, I.tok tk, rfl, q⟩
theorem call_isOT (hK : X.K = K) : CallR X (.builtin "isinstance") (fun xs H Q => ∃ a C dx fs tp cs b, xs = [.ref a, .ref tp] ∧ H a = some (.ins C dx fs) ∧ OCls K C ∧ SqT K H tp cs ∧ cs.all isCl = true ∧ PySem.W.kitAny K (.ref C) (cs.map vo) = some b ∧ Q (.bl b) H) := by
  subst hK
  intro pins s σ H xs us Q I r h
  obtain ⟨a, C, dx, fs, tp, cs, b, rfl, ha, oc, ht, hc, hk, q⟩ := h
  obtain ⟨u, w', rfl, r1, r2⟩ := vals2 r
  cases r1; cases r2
  obtain ⟨its, rv, ⟨o, ho, hoc, n, hod⟩, _⟩ := I.tuple ht
  cases vo_all hc rv
  obtain ⟨oc', od', odt, osl⟩ := o
  cases hoc; cases hod
  obtain ⟨od, i⟩ := I.instAt ha
  exact PySem.W.kia_tup (PySem.W.kitx_own oc.pg oc.hd oc.cl oc.sp oc.tk oc.ob) I.kIn i ho hk (by intro z; cases z) fun tk => ⟨.bl _, H, I.tok tk, rfl, q⟩
end
end L2
set_option Elab.async false
set_option linter.all false
set_option maxRecDepth 100000
set_option maxHeartbeats 400000
namespace L2
open PySem PySem.Spec PyProof.Rows
end L2
namespace L2
open PySem PySem.Spec PyProof.Rows
section
variable {X : Cx}
end
end L2
namespace L2
open PySem PySem.Spec PyProof.Rows
section
variable {X : Cx} {K : PySem.W.Frag}
end
end L2
set_option Elab.async false
set_option linter.all false
set_option maxRecDepth 100000
set_option maxHeartbeats 400000
namespace Sm
open PySem L2 SmSort
def NearAt (C : Addr) (H : Hp) (x b : Addr) : Prop := ∃ dx, H x = some (.ins C dx [("past", .ref b)])
theorem NearAt.same {C : Addr} {H H' : Hp} {x b : Addr} (h : NearAt C H x b) (s : Same H H') : NearAt C H' x b := h.elim fun dx e => ⟨dx, s _ _ e⟩
def spFirst0 : Sp := fun vs H Q _ => ∃ x, vs = [x] ∧ Q (.int 0) H
def spIs : Sp := fun vs H Q _ => ∃ x, vs = [x, x] ∧ (x = .non ∨ ∃ i, x = .int i) ∧ Q (.bl true) H
end Sm
namespace Sm
open PySem L2 SmSort
end Sm
namespace Sm
open PySem L2 SmSort
end Sm
namespace Sm
open PySem L2 SmSort
def ElderAt (C : Addr) (H : Hp) (x b lt : Addr) : Prop := ∃ s a w z rooms tr tm ps, NearAt C H x b ∧ BookAt H b rooms tr tm ps ∧ Good rooms.length (ps.map (·.2)) ∧ rooms.length ≤ 12 ∧ H lt = some (.tup [.int s, .int a, .int w, .int z])
theorem ElderAt.same {C : Addr} {H H' : Hp} {x b lt : Addr} (h : ElderAt C H x b lt) (k : Same H H') : ElderAt C H' x b lt := by
  obtain ⟨s, a, w, z, rooms, tr, tm, ps, h1, h2, h3, h4, h5⟩ := h
  exact ⟨s, a, w, z, rooms, tr, tm, ps, h1.same k, h2.same k, h3, h4, k _ _ h5⟩
def OldAt (C : Addr) (H : Hp) (v : V) : Prop := v = .non ∨ ∃ e x b lt, v = .ref e ∧ H e = some (.tup [.ref x, .ref b, .ref lt]) ∧ ElderAt C H x b lt
theorem OldAt.same {C : Addr} {H H' : Hp} {v : V} (h : OldAt C H v) (k : Same H H') : OldAt C H' v := by
  rcases h with h | ⟨e, x, b, lt, h1, h2, h3⟩
  · exact .inl h
  · exact .inr ⟨e, x, b, lt, h1, k _ _ h2, h3.same k⟩
end Sm
set_option Elab.async false
set_option linter.all false
set_option maxRecDepth 100000
set_option maxHeartbeats 400000
namespace L2
open PySem PySem.Spec PyProof.Rows
section
variable {X : Cx} {k : Nat} {f C : Addr} {fd : FuncData} {ps : List Str} {sp : Sp} {dvs : List V} {ds : List Value} {x : Str} {p pos cpos : Pos} {e : Expr} {es : List Expr} {t : TA}
theorem run_makeX {pins : List (Addr × Obj)} {σ : St} {H : Hp} {s : Shared} {Q : VK} {us : List Value} {vs : List V} {Eh : XK} {Z : Value → Shared → Prop} (M : Mk X.K C f) (F : FnOk X.prog X.w X.K X.mg X.base (CXE X.prog X.w) k f fd ps sp) (hr : Room (k + 1) X.A) (hb : Binds X.K fd ps ds) (hd : Vals dvs ds)
    (hx : ∀ H1 s1 e s', Inv X pins σ H1 s1 → CXE X.prog X.w X.stack H1 s1 Eh e s' → Z e s') (I : Inv X pins σ H s) (r : Vals vs us)
    (h : ∀ x dx, H x = none → H dx = none → dx ≠ x → sp (.ref x :: (vs ++ dvs)) (upd (upd H dx (.own x)) x (.ins C dx [])) (fun v H2 => v = .non ∧ Q (.ref x) H2) Eh) :
    wpAny (model X.prog X.w) X.A (call (.ref C) us) (EP X pins σ Q) Z s := by
  have hq := h (s.heap.objs.size + 1) s.heap.objs.size (I.hok.fresh (Nat.le_succ _)) (I.hok.fresh (Nat.le_refl _)) (Nat.ne_of_lt (Nat.lt_succ_self _))
  have I2 := Inv.made (C := C) I
  have r2 : Vals (V.ref (s.heap.objs.size + 1) :: (vs ++ dvs)) (Value.ref (s.heap.objs.size + 1) :: (us ++ ds)) := .cons rfl (r.append hd)
  have hl : (Value.ref (s.heap.objs.size + 1) :: us ++ ds).length = ps.length := by
    have e := r2.length
    rw [F.len _ _ _ _ hq] at e
    exact e.symm
  refine wpAny_call (make_map (f := f) I.kIn M.makes M.init (beq_iff_eq.mp M.fn) (codeAny_mono (F.run _ X.stack _ _ ⟨Value.ref (s.heap.objs.size + 1) :: us, []⟩ (Value.ref (s.heap.objs.size + 1) :: (us ++ ds)) _ _ Eh (hr.make C us [])
    (I2.env0.make C us []) (hb _ (Value.ref (s.heap.objs.size + 1) :: us) I2.kIn hl) r2 hq) fun r s' hq' => ?_))
  cases r with
  | error e => exact hx _ _ e s' I2 hq'
  | ok fl =>
    cases fl with
    | ret u =>
      obtain ⟨v, H', I3, rv, ev, q3⟩ := I2.after hq'
      subst ev
      exact ⟨rv, ⟨V.ref (s.heap.objs.size + 1), H', I3, rfl, q3⟩⟩
    | next => exact False.elim hq'
    | brk => exact False.elim hq'
    | cont => exact False.elim hq'
theorem makeX {pins : List (Addr × Obj)} {σ : St} {H : Hp} {s : Shared} {Q : VK} {Eh : XK} {Z : Value → Shared → Prop} (M : Mk X.K C f) (F : FnOk X.prog X.w X.K X.mg X.base (CXE X.prog X.w) k f fd ps sp) (hr : Room (k + 1) X.A) (hg : Gl X x) (hm : X.mg x = some (.ref C)) (hb : Binds X.K fd ps ds) (hd : Vals dvs ds)
    (ha : PA X.nox (e :: es) t) (I : Inv X pins σ H s) (h : tMake C sp dvs Eh t σ H Q) (hx : ∀ H1 s1 e s', Inv X pins σ H1 s1 → CXE X.prog X.w X.stack H1 s1 Eh e s' → Z e s') (hdb : (x == ("__debug__" : Str)) = false)
    (he : starEach (e :: es) X.env = (false, eval e X.env) :: starEach es X.env) (hpl : (backTo cpos (starEach es X.env)).any (·.1) = false) :
    wpAny (model X.prog X.w) X.A (eval (.Call (.Name x p) (e :: es) [] cpos) X.env) (EP X pins σ Q) Z s := by
  refine wpAny_Call_Name_kw (ld_glob I hg hm ?_ hdb)
  refine PySem.W.callWith_K (h₀ := X.base) I.ok.mod.kin M.kp (wpAny_mono (ha cpos pins s σ H _ (I.wish _) h) (fun us s1 ⟨vs, H1, I1, r, q⟩ => ⟨I1.unwish.kIn, ?_⟩) fun _ _ z => z.elim) he hpl
  exact run_makeX M F hr hb hd hx I1.unwish r q
theorem psx_make (M : Mk X.K C f) (F : FnOk X.prog X.w X.K X.mg X.base (CXE X.prog X.w) k f fd ps sp) (hr : Room (k + 1) X.A) (hg : Gl X x) (hm : X.mg x = some (.ref C)) (hb : Binds X.K fd ps ds) (hd : Vals dvs ds)
    (ha : PA X.nox (e :: es) t) (hdb : (x == ("__debug__" : Str)) = false := by decide) (he : starEach (e :: es) X.env = (false, eval e X.env) :: starEach es X.env := by rfl) (hpl : (backTo cpos (starEach es X.env)).any (·.1) = false := by rfl)
    (hs : swapsWith (.Call (.Name x p) (e :: es) [] cpos) none pos.line X.env = pure false := by rfl) :
    PSx X [.Expr (.Call (.Name x p) (e :: es) [] cpos) pos] (fun Eh => tDrop (tMake C sp dvs Eh t)) := by
  intro pins s σ H D Eh Z I h hx
  refine wpAny_execs_cons (wpAny_Expr_any (thn (makeX M F hr hg hm hb hd ha I h hx hdb he hpl) fun v s1 ⟨y, H1, I1, r1, q1⟩ => ?_) I.quiet hs)
  exact wpAny_execs_nil ⟨σ, H1, I1, q1⟩
end
end L2
set_option Elab.async false
set_option linter.all false
set_option maxRecDepth 100000
set_option maxHeartbeats 400000
namespace Sm
open PySem L2 SmSort
def halfV (o w tok : Int) : V := if o = w then .int 0 else if 2 ≤ tok then .int (tok / 2) else .non
def HalfAt (C : Addr) (H : Hp) (x : Addr) (n : Int) : Prop := ∃ dx, H x = some (.ins C dx [("tokens", .int n)])
theorem HalfAt.same {C : Addr} {H H' : Hp} {x : Addr} {n : Int} (h : HalfAt C H x n) (s : Same H H') : HalfAt C H' x n := h.elim fun dx e => ⟨dx, s _ _ e⟩
def spInitA : Sp := fun vs H Q _ => ∃ x, vs = [x] ∧ Q .non H
def spShare0 : Sp := fun vs H Q _ => ∃ x l g o t, vs = [x, l, g, o, t] ∧ Q (.int 0) H
def spInitH (C N : Addr) : Sp := fun vs H Q E => ∃ x dx v t, vs = [.ref x, v] ∧ H x = some (.ins C dx []) ∧ tyS H v = some t ∧
  ((inB 1 64 v = false ∧ E (.ref N) none H) ∨ ∃ n, v = .int n ∧ 1 ≤ n ∧ n ≤ 64 ∧ ∀ H', But x H H' → HalfAt C H' x n → Q .non H')
def spFirstH (C : Addr) : Sp := fun vs H Q _ => ∃ x n, vs = [.ref x] ∧ HalfAt C H x n ∧ Q (.int n) H
def spShareH : Sp := fun vs H Q _ => ∃ x lt g o tok s a w z, vs = [x, .ref lt, .int g, .int o, .int tok] ∧ H lt = some (.tup [.int s, .int a, .int w, .int z]) ∧ 0 ≤ tok ∧ tok ≤ 64 ∧ Q (halfV o w tok) H
def spThing51 : Sp := fun vs H Q _ => ∃ p, vs = [.ref p] ∧ Purse H p ∧ ∀ x t H', Go p H H' → tyS H' x = some t → x ≠ .ref p → Q x H'
def spRef51 : Sp := fun vs H Q _ => ∃ x t, vs = [x] ∧ tyS H x = some t ∧ inB 1 64 x = false ∧ ∀ H', Same H H' → Q (.bl true) H'
def spShares (C : Addr) : Sp := fun vs H Q _ => ∃ x n lt g o tok s a w z, vs = [.ref x, .ref lt, .int g, .int o, .int tok] ∧ HalfAt C H x n ∧ H lt = some (.tup [.int s, .int a, .int w, .int z]) ∧ 0 ≤ tok ∧ tok ≤ 64 ∧ ∀ H', Same H H' → Q (.bl true) H'
theorem up4 : ∀ j : Nat, j < 41 → Builtin.Range.small 0 j 2 = true ∧ Builtin.Range.rangeSize 0 j 2 = (((j + 1) / 2 : Nat) : Int) := by decide
theorem same_two {H : Hp} {x dx : Addr} {o1 o2 : HO} (nx : H x = none) (ndx : H dx = none) (ne : dx ≠ x) : Same H (upd (upd H dx o1) x o2) :=
  (same_new ndx).trans (same_new (by rw [upd_ne (Ne.symm ne)]; exact nx))
theorem same_twice {H : Hp} {x : Addr} {o1 o2 : HO} (h : H x = none) : Same H (upd (upd H x o1) x o2) := fun b u e => by
  rw [upd_ne (ne_of_none e h), upd_ne (ne_of_none e h)]; exact e
theorem if_bad {x : V} {t : String} {σ : St} {H : Hp} {A : TS} {D : Ends} (hx : σ[4]? = some (some x)) (ht : tyS H x = some t) (h1 : inB 1 64 x = false → A D σ H) (h2 : inB 1 64 x = true → D.nx σ H) :
    tIfS (tOr (tNot (tB (tCall spWhole [] E0 (tCons (tVar 4) tNil)))) (tNot (tTest (tChain (rI0 fun i j => V.bl (decide (i ≤ j))) (rI0 fun i j => V.bl (decide (i ≤ j))) (tC (V.int 1)) (tVar 4) (tC (V.int 64)))))) A tNext D σ H := by
  refine ⟨_, hx, x, t, rfl, ht, _, rfl, ?_⟩
  by_cases ct : t = "int"
  · subst ct
    obtain ⟨n, rfl⟩ := tyS_int ht
    refine iteB0 rfl ⟨_, hx, _, _, rfl, rfl, _, rfl, iteD (fun c1 => ⟨_, _, rfl, rfl, _, rfl, ?_⟩) (fun c1 => ⟨_, rfl, ?_⟩)⟩
    · by_cases c2 : n ≤ 64
      · exact iteB0 (by simp [c2]) (h2 (by simp [inB, c1, c2]))
      · exact iteB1 (by simp [c2]) (h1 (by simp [inB, c2]))
    · exact iteB1 (by simp) (h1 (by simp [inB, c1]))
  · exact iteB1 (by simp [ct]) (h1 (inB_no ht ct))
theorem inB_get {x : V} {lo hi : Int} (h : inB lo hi x = true) : ∃ n, x = .int n ∧ lo ≤ n ∧ n ≤ hi := by
  cases x with
  | int n => simp [inB] at h; exact ⟨n, rfl, h.1, h.2⟩
  | _ => cases h
end Sm

set_option Elab.async false
set_option linter.all false
set_option maxRecDepth 100000
set_option maxHeartbeats 4000000
namespace Sm
open PySem L2
def top (i : Nat) : Stmt := PySem.Challenge.pw_satchelmeet_k51_halves_and_all_met.main.body.getD i (.Pass ⟨0, 0, 0, 0⟩)
abbrev s__law_purse : Stmt := top 30
abbrev s__law_take : Stmt := top 31
abbrev s__law_far : Stmt := top 32
abbrev s__law_rooms : Stmt := top 33
abbrev s__law_step : Stmt := top 34
abbrev s__law_meetings : Stmt := top 35
abbrev s__law_book : Stmt := top 36
abbrev s__law_time : Stmt := top 37
abbrev s__law_letter : Stmt := top 38
abbrev s__law_whole : Stmt := top 39
abbrev s_is_whole : Stmt := top 20
abbrev s_is_within : Stmt := top 21
abbrev s_AllMet___init__ : Stmt := inClass (top 25) 0
abbrev s_AllMet_at_first : Stmt := inClass (top 25) 1
abbrev s_AllMet_share : Stmt := inClass (top 25) 2
abbrev s_Halves___init__ : Stmt := inClass (top 26) 0
abbrev s_Halves_at_first : Stmt := inClass (top 26) 1
abbrev s_Halves_share : Stmt := inClass (top 26) 2
abbrev s__law_is : Stmt := top 40
abbrev s__law_thing_here : Stmt := top 41
abbrev s__law_refused : Stmt := top 42
abbrev s__law_shares : Stmt := top 43
abbrev s_law : Stmt := top 44
structure Ad where
  a__law_purse : Addr
  d__law_purse : FuncData
  a__law_take : Addr
  d__law_take : FuncData
  a__law_far : Addr
  d__law_far : FuncData
  a__law_rooms : Addr
  d__law_rooms : FuncData
  a__law_step : Addr
  d__law_step : FuncData
  a__law_meetings : Addr
  d__law_meetings : FuncData
  a__law_book : Addr
  d__law_book : FuncData
  a__law_time : Addr
  d__law_time : FuncData
  a__law_letter : Addr
  d__law_letter : FuncData
  a__law_whole : Addr
  d__law_whole : FuncData
  a_is_whole : Addr
  d_is_whole : FuncData
  a_is_within : Addr
  d_is_within : FuncData
  a_AllMet___init__ : Addr
  d_AllMet___init__ : FuncData
  a_AllMet_at_first : Addr
  d_AllMet_at_first : FuncData
  a_AllMet_share : Addr
  d_AllMet_share : FuncData
  a_Halves___init__ : Addr
  d_Halves___init__ : FuncData
  a_Halves_at_first : Addr
  d_Halves_at_first : FuncData
  a_Halves_share : Addr
  d_Halves_share : FuncData
  a__law_is : Addr
  d__law_is : FuncData
  a__law_thing_here : Addr
  d__law_thing_here : FuncData
  a__law_refused : Addr
  d__law_refused : FuncData
  a__law_shares : Addr
  d__law_shares : FuncData
  a_law : Addr
  d_law : FuncData
  c_AllMet : Addr
  c_Halves : Addr
  c_HasIt : Addr
  c_MeetError : Addr
  c_Nearer : Addr
  c_NoBook : Addr
  c_NoClaim : Addr
  c_NoDay : Addr
  c_NoDeed : Addr
  c_NoLetter : Addr
  c_NoMeeting : Addr
  c_NoName : Addr
  c_NoPass : Addr
  c_NoRoom : Addr
  c_NoRow : Addr
  c_NoRule : Addr
  c_NoText : Addr
  c_NoWalker : Addr
  c_NotThere : Addr
  c_Rule : Addr
  c_TooMany : Addr
  c_Twice : Addr
structure Tx (K : PySem.W.Frag) (mg : Str → Option Value) (a : Ad) (a_MOST_TOKENS : Tok) : Prop where
  F__law_purse : Fun K "_law_purse" "_law_purse" s__law_purse a.a__law_purse a.d__law_purse
  i__law_purse : Binds K a.d__law_purse ["_law_script", "_law_k"] []
  m__law_purse : mg "_law_purse" = some (.ref a.a__law_purse)
  k__law_purse : PySem.W.keepIn K (.ref a.a__law_purse) = true
  F__law_take : Fun K "_law_take" "_law_take" s__law_take a.a__law_take a.d__law_take
  i__law_take : Binds K a.d__law_take ["_law_purse_here", "_law_many"] []
  m__law_take : mg "_law_take" = some (.ref a.a__law_take)
  k__law_take : PySem.W.keepIn K (.ref a.a__law_take) = true
  F__law_far : Fun K "_law_far" "_law_far" s__law_far a.a__law_far a.d__law_far
  i__law_far : Binds K a.d__law_far ["_law_purse_here"] []
  m__law_far : mg "_law_far" = some (.ref a.a__law_far)
  k__law_far : PySem.W.keepIn K (.ref a.a__law_far) = true
  F__law_rooms : Fun K "_law_rooms" "_law_rooms" s__law_rooms a.a__law_rooms a.d__law_rooms
  i__law_rooms : Binds K a.d__law_rooms ["_law_purse_here", "_law_walkers"] []
  m__law_rooms : mg "_law_rooms" = some (.ref a.a__law_rooms)
  k__law_rooms : PySem.W.keepIn K (.ref a.a__law_rooms) = true
  F__law_step : Fun K "_law_step" "_law_step" s__law_step a.a__law_step a.d__law_step
  i__law_step : Binds K a.d__law_step ["_law_purse_here"] []
  m__law_step : mg "_law_step" = some (.ref a.a__law_step)
  k__law_step : PySem.W.keepIn K (.ref a.a__law_step) = true
  F__law_meetings : Fun K "_law_meetings" "_law_meetings" s__law_meetings a.a__law_meetings a.d__law_meetings
  i__law_meetings : Binds K a.d__law_meetings ["_law_purse_here", "_law_walkers", "_law_most"] []
  m__law_meetings : mg "_law_meetings" = some (.ref a.a__law_meetings)
  k__law_meetings : PySem.W.keepIn K (.ref a.a__law_meetings) = true
  F__law_book : Fun K "_law_book" "_law_book" s__law_book a.a__law_book a.d__law_book
  i__law_book : Binds K a.d__law_book ["_law_purse_here", "_law_most_walkers", "_law_most_meetings"] []
  m__law_book : mg "_law_book" = some (.ref a.a__law_book)
  k__law_book : PySem.W.keepIn K (.ref a.a__law_book) = true
  F__law_time : Fun K "_law_time" "_law_time" s__law_time a.a__law_time a.d__law_time
  i__law_time : Binds K a.d__law_time ["_law_purse_here", "_law_book_here", "_law_later"] []
  m__law_time : mg "_law_time" = some (.ref a.a__law_time)
  k__law_time : PySem.W.keepIn K (.ref a.a__law_time) = true
  F__law_letter : Fun K "_law_letter" "_law_letter" s__law_letter a.a__law_letter a.d__law_letter
  i__law_letter : Binds K a.d__law_letter ["_law_purse_here", "_law_book_here"] []
  m__law_letter : mg "_law_letter" = some (.ref a.a__law_letter)
  k__law_letter : PySem.W.keepIn K (.ref a.a__law_letter) = true
  F__law_whole : Fun K "_law_whole" "_law_whole" s__law_whole a.a__law_whole a.d__law_whole
  i__law_whole : Binds K a.d__law_whole ["_law_thing_here"] []
  m__law_whole : mg "_law_whole" = some (.ref a.a__law_whole)
  k__law_whole : PySem.W.keepIn K (.ref a.a__law_whole) = true
  F_is_whole : Fun K "is_whole" "is_whole" s_is_whole a.a_is_whole a.d_is_whole
  i_is_whole : Binds K a.d_is_whole ["thing"] []
  m_is_whole : mg "is_whole" = some (.ref a.a_is_whole)
  k_is_whole : PySem.W.keepIn K (.ref a.a_is_whole) = true
  F_is_within : Fun K "is_within" "is_within" s_is_within a.a_is_within a.d_is_within
  i_is_within : Binds K a.d_is_within ["thing", "least", "most"] []
  m_is_within : mg "is_within" = some (.ref a.a_is_within)
  k_is_within : PySem.W.keepIn K (.ref a.a_is_within) = true
  F_AllMet___init__ : Fun K "__init__" "AllMet.__init__" s_AllMet___init__ a.a_AllMet___init__ a.d_AllMet___init__
  i_AllMet___init__ : Binds K a.d_AllMet___init__ ["self"] []
  M_AllMet___init__ : Meth K a.c_AllMet "__init__" a.a_AllMet___init__
  k_AllMet___init__ : PySem.W.keepIn K (.ref a.a_AllMet___init__) = true
  F_AllMet_at_first : Fun K "at_first" "AllMet.at_first" s_AllMet_at_first a.a_AllMet_at_first a.d_AllMet_at_first
  i_AllMet_at_first : Binds K a.d_AllMet_at_first ["self"] []
  M_AllMet_at_first : Meth K a.c_AllMet "at_first" a.a_AllMet_at_first
  k_AllMet_at_first : PySem.W.keepIn K (.ref a.a_AllMet_at_first) = true
  F_AllMet_share : Fun K "share" "AllMet.share" s_AllMet_share a.a_AllMet_share a.d_AllMet_share
  i_AllMet_share : Binds K a.d_AllMet_share ["self", "letter", "giver", "other", "tokens"] []
  M_AllMet_share : Meth K a.c_AllMet "share" a.a_AllMet_share
  k_AllMet_share : PySem.W.keepIn K (.ref a.a_AllMet_share) = true
  F_Halves___init__ : Fun K "__init__" "Halves.__init__" s_Halves___init__ a.a_Halves___init__ a.d_Halves___init__
  i_Halves___init__ : Binds K a.d_Halves___init__ ["self", "tokens"] []
  M_Halves___init__ : Meth K a.c_Halves "__init__" a.a_Halves___init__
  k_Halves___init__ : PySem.W.keepIn K (.ref a.a_Halves___init__) = true
  F_Halves_at_first : Fun K "at_first" "Halves.at_first" s_Halves_at_first a.a_Halves_at_first a.d_Halves_at_first
  i_Halves_at_first : Binds K a.d_Halves_at_first ["self"] []
  M_Halves_at_first : Meth K a.c_Halves "at_first" a.a_Halves_at_first
  k_Halves_at_first : PySem.W.keepIn K (.ref a.a_Halves_at_first) = true
  F_Halves_share : Fun K "share" "Halves.share" s_Halves_share a.a_Halves_share a.d_Halves_share
  i_Halves_share : Binds K a.d_Halves_share ["self", "letter", "giver", "other", "tokens"] []
  M_Halves_share : Meth K a.c_Halves "share" a.a_Halves_share
  k_Halves_share : PySem.W.keepIn K (.ref a.a_Halves_share) = true
  F__law_is : Fun K "_law_is" "_law_is" s__law_is a.a__law_is a.d__law_is
  i__law_is : Binds K a.d__law_is ["_law_found", "_law_due"] []
  m__law_is : mg "_law_is" = some (.ref a.a__law_is)
  k__law_is : PySem.W.keepIn K (.ref a.a__law_is) = true
  F__law_thing_here : Fun K "_law_thing_here" "_law_thing_here" s__law_thing_here a.a__law_thing_here a.d__law_thing_here
  i__law_thing_here : Binds K a.d__law_thing_here ["_law_purse_here"] []
  m__law_thing_here : mg "_law_thing_here" = some (.ref a.a__law_thing_here)
  k__law_thing_here : PySem.W.keepIn K (.ref a.a__law_thing_here) = true
  F__law_refused : Fun K "_law_refused" "_law_refused" s__law_refused a.a__law_refused a.d__law_refused
  i__law_refused : Binds K a.d__law_refused ["_law_thing_here_here"] []
  m__law_refused : mg "_law_refused" = some (.ref a.a__law_refused)
  k__law_refused : PySem.W.keepIn K (.ref a.a__law_refused) = true
  F__law_shares : Fun K "_law_shares" "_law_shares" s__law_shares a.a__law_shares a.d__law_shares
  i__law_shares : Binds K a.d__law_shares ["_law_rule_here", "_law_letter_here", "_law_giver", "_law_taker", "_law_tokens"] []
  m__law_shares : mg "_law_shares" = some (.ref a.a__law_shares)
  k__law_shares : PySem.W.keepIn K (.ref a.a__law_shares) = true
  F_law : Fun K "law" "law" s_law a.a_law a.d_law
  i_law : Binds K a.d_law ["_law_script_here"] []
  m_law : mg "law" = some (.ref a.a_law)
  k_law : PySem.W.keepIn K (.ref a.a_law) = true
  b_ValueError : mg "ValueError" = none
  b_bool : mg "bool" = none
  b_int : mg "int" = none
  b_isinstance : mg "isinstance" = none
  b_len : mg "len" = none
  b_max : mg "max" = none
  b_min : mg "min" = none
  b_range : mg "range" = none
  b_sorted : mg "sorted" = none
  b_tuple : mg "tuple" = none
  m_AllMet : mg "AllMet" = some (.ref a.c_AllMet)
  m_Halves : mg "Halves" = some (.ref a.c_Halves)
  m_HasIt : mg "HasIt" = some (.ref a.c_HasIt)
  m_MeetError : mg "MeetError" = some (.ref a.c_MeetError)
  m_Nearer : mg "Nearer" = some (.ref a.c_Nearer)
  m_NoBook : mg "NoBook" = some (.ref a.c_NoBook)
  m_NoClaim : mg "NoClaim" = some (.ref a.c_NoClaim)
  m_NoDay : mg "NoDay" = some (.ref a.c_NoDay)
  m_NoDeed : mg "NoDeed" = some (.ref a.c_NoDeed)
  m_NoLetter : mg "NoLetter" = some (.ref a.c_NoLetter)
  m_NoMeeting : mg "NoMeeting" = some (.ref a.c_NoMeeting)
  m_NoName : mg "NoName" = some (.ref a.c_NoName)
  m_NoPass : mg "NoPass" = some (.ref a.c_NoPass)
  m_NoRoom : mg "NoRoom" = some (.ref a.c_NoRoom)
  m_NoRow : mg "NoRow" = some (.ref a.c_NoRow)
  m_NoRule : mg "NoRule" = some (.ref a.c_NoRule)
  m_NoText : mg "NoText" = some (.ref a.c_NoText)
  m_NoWalker : mg "NoWalker" = some (.ref a.c_NoWalker)
  m_NotThere : mg "NotThere" = some (.ref a.c_NotThere)
  m_Rule : mg "Rule" = some (.ref a.c_Rule)
  m_TooMany : mg "TooMany" = some (.ref a.c_TooMany)
  m_Twice : mg "Twice" = some (.ref a.c_Twice)
  x_NoRule : XCls K a.c_NoRule
  L_AllMet : Cls K a.c_AllMet
  L_Halves : Cls K a.c_Halves
  Y_AllMet : Mk K a.c_AllMet a.a_AllMet___init__
  Y_Halves : Mk K a.c_Halves a.a_Halves___init__
  n_Halves_tokens : NoAttr K a.c_Halves "tokens"
  o_Halves : OCls K a.c_Halves
  o_AllMet : OCls K a.c_AllMet
  f_em : PySem.W.exmOne K (.ref a.c_NoRule) (.ref a.c_MeetError) = some true
  f_ve : PySem.W.kitOne K (.ref a.c_NoRule) (.type "ValueError") = some true
  f_ka : PySem.W.kitAny K (.ref a.c_NoRule) [.ref a.c_NoBook, .ref a.c_NoMeeting, .ref a.c_NoDeed, .ref a.c_NoLetter, .ref a.c_NoWalker, .ref a.c_NotThere, .ref a.c_HasIt, .ref a.c_NoPass, .ref a.c_NoRoom] = some false
  f_kb : PySem.W.kitAny K (.ref a.c_NoRule) [.ref a.c_TooMany, .ref a.c_NoDay, .ref a.c_NoClaim, .ref a.c_NoText, .ref a.c_NoRow, .ref a.c_NoName, .ref a.c_Twice] = some false
  f_ar : PySem.W.kitOne K (.ref a.c_AllMet) (.ref a.c_Rule) = some true
  f_ao : PySem.W.kitAny K (.ref a.c_AllMet) [.ref a.c_Halves, .ref a.c_Nearer] = some false
  f_hr : PySem.W.kitOne K (.ref a.c_Halves) (.ref a.c_Rule) = some true
  f_ho : PySem.W.kitAny K (.ref a.c_Halves) [.ref a.c_AllMet, .ref a.c_Nearer] = some false
  c_MOST_TOKENS : mg "MOST_TOKENS" = some (.int 64 a_MOST_TOKENS)
section
variable {P : Program} {w : World} {K : PySem.W.Frag} {mg : Str → Option Value} {base : Heap} {a : Ad} {t_MOST_TOKENS : Tok}
theorem sc__law_purse : FnScope ["_law_script", "_law_k", "_law_cell", "_law_left"] ["_law_script", "_law_k"] (defScope s__law_purse) := ⟨rfl, rfl, rfl, by decide +kernel, rfl, by decide +kernel, by decide +kernel⟩
theorem ok__law_purse (T : Tx K mg a t_MOST_TOKENS) : FnOk P w K mg base CX0 1 a.a__law_purse a.d__law_purse ["_law_script", "_law_k"] (spPurse K) := by
  refine T.F__law_purse.ok sc__law_purse (fun vs H Q E h => ?_) (fun cdv A outer s H vs Q E hr h => ?_)
  · obtain ⟨a, ns, k, rfl, _⟩ := h; rfl
  · have nd := sc__law_purse.nd
    have hu := hr.units
    obtain ⟨sa, ns, k, rfl, hS, hk, q⟩ := h
    refine ⟨_, (@bl_out _ _ _ (@bl_c _ _ _ _ _ _ (ps_set (i := 2) nd rfl (by first | exact Or.inl rfl | exact Or.inr rfl) pe_int) (@bl_c _ _ _ _ _ _ (@ps_if _ _ _ _ _ _ _ _ (@pt_cmpR _ _ _ _ _ _ _ _ op_lt (pv 1) (pe_callB (call_len_seq' rfl) (by rfl) T.b_len PySem.boot_len (@pa_out _ _ _ (@pa_c _ _ _ _ _ (pv 0) pa_n rfl))) (nomark _)) (@bl_out _ _ _ (@bl_1 _ _ _ (ps_set (i := 2) nd rfl (by first | exact Or.inl rfl | exact Or.inr rfl) (@pe_ix _ _ _ _ _ _ _ (ix_list' rfl) (pv 0) (pv 1) (fun _ _ => rfl))))) pss_nil) (@bl_c _ _ _ _ _ _ (ps_set (i := 3) nd rfl (by first | exact Or.inl rfl | exact Or.inr rfl) pe_int) (@bl_c _ _ _ _ _ _ (@ps_if _ _ _ _ _ _ _ _ (@pt_cmpR _ _ _ _ _ _ _ _ op_lt (pv 2) pe_int (nomark _)) (@bl_out _ _ _ (@bl_1 _ _ _ (ps_set (i := 3) nd rfl (by first | exact Or.inl rfl | exact Or.inr rfl) (@pe_op _ _ _ _ _ _ _ _ op_sub (@pe_un _ _ _ _ _ _ un_neg pe_int) (pv 2))))) pss_nil) (@bl_c _ _ _ _ _ _ (@ps_if _ _ _ _ _ _ _ _ (@pt_cmpR _ _ _ _ _ _ _ _ op_ge (pv 2) (@pe_op _ _ _ _ _ _ _ _ op_pow pe_int pe_int) (nomark _)) (@bl_out _ _ _ (@bl_1 _ _ _ (ps_set (i := 3) nd rfl (by first | exact Or.inl rfl | exact Or.inr rfl) (pv 2)))) pss_nil) (@bl_1 _ _ _ (@ps_ret _ _ _ _ (@pe_lst _ _ _ _ (@pa_out _ _ _ (@pa_c _ _ _ _ _ (pv 3) (@pa_c _ _ _ _ _ (@pe_op _ _ _ _ _ _ _ _ op_mod (@pe_op _ _ _ _ _ _ _ _ op_add (@pe_op _ _ _ _ _ _ _ _ op_add (@pe_op _ _ _ _ _ _ _ _ op_mul (pv 2) pe_int) (@pe_op _ _ _ _ _ _ _ _ op_mul (pv 1) pe_int)) pe_int) pe_int) (@pa_c _ _ _ _ _ pe_int pa_n rfl) rfl) rfl))))))))))), ?_⟩
    have c18 : CPow 10 18 := ⟨by decide, by decide, by decide⟩
    have s3 : 3 ≤ sizeLine := by rw [sizeLine_eq]; decide
    have fin : ∀ (x y : Int) p, H p = none → Q (.ref p) (upd H p (.lst [.int x, .int y, .int 0])) := fun x y p hp => q p _ hp ⟨x, y, 0, upd_same⟩ (same_new hp)
    have c69 : ∀ x : Int, CMul x 69 := fun x => .inr ⟨by decide, by decide⟩
    have c405 : ∀ x : Int, CMul x 40503 := fun x => .inr ⟨by decide, by decide⟩
    refine ⟨_, rfl, _, rfl, sa, _, rfl, .inl hS, _, _, rfl, rfl, _, rfl, iteN (fun σ H1 => ∃ c : Int, σ = [some (.ref sa), some (.int k), some (.int c), none] ∧ H = H1) ?_ (fun c k0 => ?_) (fun c => ⟨0, rfl, rfl⟩)⟩
    · rintro σ H1 ⟨c, rfl, rfl⟩
      refine ⟨_, rfl, _, _, rfl, rfl, _, rfl, iteN (fun σ H1 => ∃ d : Int, σ = [some (.ref sa), some (.int k), some (.int c), some (.int d)] ∧ H = H1) ?_ (fun z k0 => ?_) (fun z => ⟨0, rfl, rfl⟩)⟩
      · rintro σ H1 ⟨d, rfl, rfl⟩
        refine ⟨_, rfl, _, _, rfl, rfl, c18, _, _, rfl, rfl, _, rfl, iteN (fun σ H1 => ∃ d : Int, σ = [some (.ref sa), some (.int k), some (.int c), some (.int d)] ∧ H = H1) ?_ (fun z k0 => ⟨_, rfl, k0 _ _ ⟨c, rfl, rfl⟩⟩) (fun z => ⟨d, rfl, rfl⟩)⟩
        rintro σ H1 ⟨d, rfl, rfl⟩
        exact ⟨_, rfl, _, rfl, _, _, rfl, rfl, c69 _, _, rfl, _, _, rfl, rfl, c405 _, _, _, rfl, rfl, _, _, rfl, rfl, _, _, rfl, rfl, (by show (0 : Int) < 2147483647; decide), s3, fin _ _⟩
      · exact ⟨_, rfl, _, rfl, _, _, rfl, rfl, k0 _ _ ⟨_, rfl, rfl⟩⟩
    · have hk2 : k < ns.length := by
        have := of_decide_eq_true c
        rw [List.length_map] at this; omega
      exact ⟨_, rfl, _, rfl, sa, _, _, _, rfl, rfl, hS, atI_nat (v := V.int ns[k]) (by simp [hk2]), k0 _ _ ⟨_, rfl, rfl⟩⟩
theorem sc__law_take : FnScope ["_law_purse_here", "_law_many", "_law_digit", "_law_mixed"] ["_law_purse_here", "_law_many"] (defScope s__law_take) := ⟨rfl, rfl, rfl, by decide +kernel, rfl, by decide +kernel, by decide +kernel⟩
theorem ok__law_take (T : Tx K mg a t_MOST_TOKENS) : FnOk P w K mg base CX0 1 a.a__law_take a.d__law_take ["_law_purse_here", "_law_many"] (spTake) := by
  refine T.F__law_take.ok sc__law_take (fun vs H Q E h => ?_) (fun cdv A outer s H vs Q E hr h => ?_)
  · obtain ⟨p, n, rfl, _⟩ := h; rfl
  · have nd := sc__law_take.nd
    have hu := hr.units
    obtain ⟨p, n, rfl, n0, n1, ⟨x, y, z, hp⟩, q⟩ := h
    refine ⟨_, (@bl_out _ _ _ (@bl_c _ _ _ _ _ _ (@ps_if _ _ _ _ _ _ _ _ (@pt_cmpR _ _ _ _ _ _ _ _ op_gt (@pe_ix _ _ _ _ _ _ _ (ix_list' rfl) (pv 0) pe_int (fun _ _ => rfl)) pe_int (nomark _)) (@bl_out _ _ _ (@bl_c _ _ _ _ _ _ (ps_set (i := 2) nd rfl (by first | exact Or.inl rfl | exact Or.inr rfl) (@pe_op _ _ _ _ _ _ _ _ op_mod (@pe_ix _ _ _ _ _ _ _ (ix_list' rfl) (pv 0) pe_int (fun _ _ => rfl)) (pv 1))) (@bl_c _ _ _ _ _ _ (ps_asg (@pe_op _ _ _ _ _ _ _ _ op_fdivB (@pe_ix _ _ _ _ _ _ _ (ix_list' rfl) (pv 0) pe_int (fun _ _ => rfl)) (pv 1)) (pg_sub (pv 0) pe_int set_list)) (@bl_1 _ _ _ (@ps_ret _ _ _ _ (pv 2)))))) pss_nil) (@bl_c _ _ _ _ _ _ (ps_augS (pv 0) pe_int (get_list rfl) pe_int ip_add set_list) (@bl_c _ _ _ _ _ _ (ps_set (i := 3) nd rfl (by first | exact Or.inl rfl | exact Or.inr rfl) (@pe_op _ _ _ _ _ _ _ _ op_mod (@pe_op _ _ _ _ _ _ _ _ op_mul (@pe_op _ _ _ _ _ _ _ _ op_add (@pe_ix _ _ _ _ _ _ _ (ix_list' rfl) (pv 0) pe_int (fun _ _ => rfl)) (@pe_op _ _ _ _ _ _ _ _ op_mul (@pe_ix _ _ _ _ _ _ _ (ix_list' rfl) (pv 0) pe_int (fun _ _ => rfl)) pe_int)) pe_int) pe_int)) (@bl_c _ _ _ _ _ _ (ps_set (i := 3) nd rfl (by first | exact Or.inl rfl | exact Or.inr rfl) (@pe_op _ _ _ _ _ _ _ _ op_mod (@pe_op _ _ _ _ _ _ _ _ op_add (@pe_op _ _ _ _ _ _ _ _ op_add (@pe_op _ _ _ _ _ _ _ _ op_mul (pv 3) (pv 3)) (@pe_op _ _ _ _ _ _ _ _ op_mul (@pe_ix _ _ _ _ _ _ _ (ix_list' rfl) (pv 0) pe_int (fun _ _ => rfl)) pe_int)) (@pe_ix _ _ _ _ _ _ _ (ix_list' rfl) (pv 0) pe_int (fun _ _ => rfl))) pe_int)) (@bl_1 _ _ _ (@ps_ret _ _ _ _ (@pe_op _ _ _ _ _ _ _ _ op_mod (@pe_op _ _ _ _ _ _ _ _ op_fdivB (@pe_op _ _ _ _ _ _ _ _ op_mod (@pe_op _ _ _ _ _ _ _ _ op_mul (pv 3) pe_int) pe_int) pe_int) (pv 1))))))))), ?_⟩
    have hS : SqL K H p _ := SqL.of hp
    have cm : ∀ x c : Int, -(2 ^ 64) < c → c < 2 ^ 64 → CMul x c := fun x c h h' => .inr ⟨h, h'⟩
    refine ⟨_, rfl, p, _, _, _, rfl, rfl, hS, rfl, _, _, rfl, rfl, _, rfl, iteD (fun h1 => ?_) fun h1 => ?_⟩
    · refine ⟨_, rfl, p, _, _, _, rfl, rfl, hS, rfl, _, rfl, _, _, rfl, rfl, n0, ?_⟩
      refine ⟨_, rfl, p, _, _, _, rfl, rfl, hS, rfl, _, rfl, _, _, rfl, rfl, ⟨n0, n1⟩, _, rfl, p, _, _, 0, rfl, rfl, hp, rfl, ?_⟩
      exact ⟨_, rfl, q _ _ (Int.emod_nonneg _ (by omega)) (Int.emod_lt_of_pos _ n0) ⟨But.set, _, _, _, upd_same⟩⟩
    · refine ⟨_, rfl, p, _, _, _, rfl, rfl, hS, rfl, _, _, rfl, rfl, p, _, _, 2, rfl, rfl, hp, rfl, ?_⟩
      have h2 : (upd H p (HO.lst ([V.int x, V.int y, V.int z].set 2 (.int (z + 1))))) p = some (.lst [V.int x, V.int y, V.int (z + 1)]) := upd_same
      have b2 : But p H (upd H p (HO.lst ([V.int x, V.int y, V.int z].set 2 (.int (z + 1))))) := But.set
      generalize upd H p (HO.lst ([V.int x, V.int y, V.int z].set 2 (.int (z + 1)))) = H2 at h2 b2 ⊢
      have hS2 : SqL K H2 p _ := SqL.of h2
      have big : (2147483647 : Int) < 2 ^ 64 := by decide
      have low : -(2 : Int) ^ 64 < 0 := by decide
      have pos : (0 : Int) < 2147483647 := by decide
      refine ⟨_, rfl, p, _, _, _, rfl, rfl, hS2, rfl, _, rfl, p, _, _, _, rfl, rfl, hS2, rfl, _, _, rfl, rfl, cm _ _ (by decide) (by decide), _, _, rfl, rfl, _, _, rfl, rfl, cm _ _ (by decide) (by decide), _, _, rfl, rfl, (by show (0 : Int) < 2147483647; decide), ?_⟩
      have m0 := Int.emod_nonneg ((y + (z + 1) * 362437) * 48271) (show (2147483647 : Int) ≠ 0 by decide)
      have m1 := Int.emod_lt_of_pos ((y + (z + 1) * 362437) * 48271) pos
      refine ⟨_, rfl, _, rfl, _, _, rfl, rfl, .inl ⟨Int.lt_of_lt_of_le low m0, Int.lt_trans m1 big⟩, _, rfl, p, _, _, _, rfl, rfl, hS2, rfl, _, _, rfl, rfl, cm _ _ (by decide) (by decide), _, _, rfl, rfl, _, rfl, p, _, _, _, rfl, rfl, hS2, rfl, _, _, rfl, rfl, _, _, rfl, rfl, (by show (0 : Int) < 2147483629; decide), ?_⟩
      refine ⟨_, rfl, _, _, rfl, rfl, cm _ _ (by decide) (by decide), _, _, rfl, rfl, (by show (0 : Int) < 2147483563; decide), _, _, rfl, rfl, ⟨by decide, by decide⟩, _, rfl, _, _, rfl, rfl, n0, ?_⟩
      exact q _ _ (Int.emod_nonneg _ (by omega)) (Int.emod_lt_of_pos _ n0) ⟨b2, _, _, _, h2⟩
theorem sc__law_far : FnScope ["_law_purse_here", "_law_high"] ["_law_purse_here"] (defScope s__law_far) := ⟨rfl, rfl, rfl, by decide +kernel, rfl, by decide +kernel, by decide +kernel⟩
theorem ok__law_far (T : Tx K mg a t_MOST_TOKENS) : FnOk P w K mg base CX0 2 a.a__law_far a.d__law_far ["_law_purse_here"] (spFar) := by
  have G__law_take := @ok__law_take P w _ _ base _ _ T
  refine T.F__law_far.ok sc__law_far (fun vs H Q E h => ?_) (fun cdv A outer s H vs Q E hr h => ?_)
  · obtain ⟨p, rfl, _⟩ := h; rfl
  · have nd := sc__law_far.nd
    have hu := hr.units
    obtain ⟨p, rfl, hp, q⟩ := h
    refine ⟨_, (@bl_out _ _ _ (@bl_c _ _ _ _ _ _ (ps_set (i := 1) nd rfl (by first | exact Or.inl rfl | exact Or.inr rfl) (pe_call G__law_take (hr.mono (by decide)) rfl T.m__law_take T.k__law_take T.i__law_take .nil pass0 (@pa_out _ _ _ (@pa_c _ _ _ _ _ (pv 0) (@pa_c _ _ _ _ _ pe_int pa_n rfl) rfl)))) (@bl_1 _ _ _ (@ps_ret _ _ _ _ (@pe_op _ _ _ _ _ _ _ _ op_mod (@pe_op _ _ _ _ _ _ _ _ op_add (@pe_op _ _ _ _ _ _ _ _ op_mul (pv 1) pe_int) (pe_call G__law_take (hr.mono (by decide)) rfl T.m__law_take T.k__law_take T.i__law_take .nil pass0 (@pa_out _ _ _ (@pa_c _ _ _ _ _ (pv 0) (@pa_c _ _ _ _ _ pe_int pa_n rfl) rfl)))) (@pe_op _ _ _ _ _ _ _ _ op_add (@pe_op _ _ _ _ _ _ _ _ op_pow pe_int pe_int) pe_int)))))), ?_⟩
    refine ⟨_, rfl, p, _, rfl, by decide, by decide, hp, fun d H1 d0 d1 g1 => ⟨_, rfl, _, _, rfl, rfl, .inr ⟨by decide, by decide⟩, _, rfl, p, _, rfl, by decide, by decide, g1.2, fun e H2 e0 e1 g2 => ⟨_, _, rfl, rfl, _, _, rfl, rfl, ⟨by decide, by decide, by decide⟩, _, _, rfl, rfl, _, _, rfl, rfl, (by show (0 : Int) < 10 ^ Int.toNat 9 + 1; decide), ?_⟩⟩⟩
    have e9 : (10 : Int) ^ Int.toNat 9 + 1 = 1000000001 := by decide
    rw [e9]
    exact q _ _ (Int.emod_nonneg _ (by decide)) (Int.lt_add_one_iff.mp (Int.emod_lt_of_pos _ (by decide))) (g1.trans g2)
theorem sc__law_rooms : FnScope ["_law_purse_here", "_law_walkers", "_law_rooms_here", "_law_walker", "_law_room"] ["_law_purse_here", "_law_walkers"] (defScope s__law_rooms) := ⟨rfl, rfl, rfl, by decide +kernel, rfl, by decide +kernel, by decide +kernel⟩
theorem ok__law_rooms (T : Tx K mg a t_MOST_TOKENS) : FnOk P w K mg base CX0 2 a.a__law_rooms a.d__law_rooms ["_law_purse_here", "_law_walkers"] (spRooms) := by
  have G__law_take := @ok__law_take P w _ _ base _ _ T
  refine T.F__law_rooms.ok sc__law_rooms (fun vs H Q E h => ?_) (fun cdv A outer s H vs Q E hr h => ?_)
  · obtain ⟨p, n, rfl, _⟩ := h; rfl
  · have nd := sc__law_rooms.nd
    have hu := hr.units
    obtain ⟨p, n, rfl, hn, hp, q⟩ := h
    refine ⟨_, (@bl_out _ _ _ (@bl_c _ _ _ _ _ _ (ps_set (i := 2) nd rfl (by first | exact Or.inl rfl | exact Or.inr rfl) (@pe_lst _ _ _ _ pa_nil)) (@bl_c _ _ _ _ _ _ (ps_for PassesOwn.never rfl (pi_range1 rfl T.b_range (@pa_out _ _ _ (@pa_c _ _ _ _ _ (pv 1) pa_n rfl))) (pg_name (i := 3) nd rfl (by first | exact Or.inl rfl | exact Or.inr rfl)) (@bl_out _ _ _ (@bl_c _ _ _ _ _ _ (ps_set (i := 4) nd rfl (by first | exact Or.inl rfl | exact Or.inr rfl) (@pe_op _ _ _ _ _ _ _ _ op_fdivB (pe_call G__law_take (hr.mono (by decide)) rfl T.m__law_take T.k__law_take T.i__law_take .nil pass0 (@pa_out _ _ _ (@pa_c _ _ _ _ _ (pv 0) (@pa_c _ _ _ _ _ pe_int pa_n rfl) rfl))) pe_int)) (@bl_c _ _ _ _ _ _ (@ps_if _ _ _ _ _ _ _ _ (@pt_cmpR _ _ _ _ _ _ _ _ op_eq (pv 4) pe_int (nomark _)) (@bl_out _ _ _ (@bl_1 _ _ _ (ps_set (i := 4) nd rfl (by first | exact Or.inl rfl | exact Or.inr rfl) (pe_call G__law_take (hr.mono (by decide)) rfl T.m__law_take T.k__law_take T.i__law_take .nil pass0 (@pa_out _ _ _ (@pa_c _ _ _ _ _ (pv 0) (@pa_c _ _ _ _ _ pe_int pa_n rfl) rfl)))))) pss_nil) (@bl_1 _ _ _ (ps_expr (pe_bm PySem.F.plainAttrs_list PySem.F.slot_list_append PySem.F.type_list_append mt_append (pv 2) (@pa_out _ _ _ (@pa_c _ _ _ _ _ (pv 4) pa_n rfl))))))))) (@bl_1 _ _ _ (@ps_ret _ _ _ _ (pe_callTy (call_tuple_of) (by rfl) T.b_tuple PyProof.Rows.boot_tuple (@pa_out _ _ _ (@pa_c _ _ _ _ _ (pv 2) pa_n rfl)))))))), ?_⟩
    have line : 1001 ≤ sizeLine := by rw [sizeLine_eq]; decide
    refine ⟨Nat.zero_le _, fun l hl => ?_⟩
    have npl := hp.ne hl
    refine ⟨_, rfl, _, rfl, by omega, by omega, ?_⟩
    refine for_range (lo := 0) (n := n) (fun i σ H2 => ∃ v3 v4 rs, σ = [some (.ref p), some (.int n), some (.ref l), v3, v4] ∧ H2 l = some (.lst (List.map V.int rs)) ∧ rs.length = i ∧ (∀ r ∈ rs, (0 : Int) ≤ r ∧ r ≤ 99) ∧ Go p H H2)
      ⟨_, _, [], rfl, upd_same, rfl, (fun _ z => nomatch z), (Go.refl hp).new hl⟩ ?_ ?_
    · rintro i σ H2 hi ⟨v3, v4, rs, rfl, h2, hlen, hr, go⟩
      refine ⟨_, rfl, p, _, rfl, by decide, by decide, go.2, fun d H3 d0 d1 g3 => ⟨_, _, rfl, rfl, ⟨by decide, by decide⟩, ?_⟩⟩
      refine ⟨_, rfl, rfl, _, rfl, iteN (fun σ H4 => ∃ x : Int, σ = [some (.ref p), some (.int n), some (.ref l), some (.int (0 + (i : Int))), some (.int x)] ∧ 0 ≤ x ∧ x ≤ 99 ∧ Go p H2 H4) ?_ (fun c k0 => ⟨_, rfl, p, _, rfl, by decide, by decide, g3.2, fun e H4 e0 e1 g4 => k0 _ _ ⟨e, rfl, e0, by omega, g3.trans g4⟩⟩) (fun c => ⟨_, rfl, by omega, by omega, g3⟩)⟩
      rintro σ H4 ⟨x, rfl, x0, x1, g4⟩
      have h4 := g4.1 l _ npl h2
      refine ⟨_, rfl, .inl ⟨rfl, _, SqL.of h4⟩, _, rfl, l, _, _, rfl, rfl, h4, by rw [List.length_map]; omega, _, _, rs ++ [x], rfl, by rw [upd_same, List.map_append]; rfl, by simp [hlen], fun r hr' => ?_, ?_⟩
      · rcases List.mem_append.mp hr' with h | h
        · exact hr r h
        · cases List.mem_singleton.mp h; exact ⟨x0, x1⟩
      · have g2 := go.trans g4
        refine ⟨fun b u nb e => ?_, ?_⟩
        · rw [upd_ne (ne_of_none e hl)]; exact g2.1 b u nb e
        · obtain ⟨a, b, c, e⟩ := g2.2
          exact ⟨a, b, c, by rw [upd_ne npl.symm]; exact e⟩
    · rintro σ H2 ⟨v3, v4, rs, rfl, h2, hlen, hr, go⟩
      exact ⟨_, rfl, l, _, rfl, .inl ⟨SqL.of h2, fun t ht => q t rs _ (go.new ht) upd_same hlen hr⟩⟩
theorem sc__law_step : FnScope ["_law_purse_here", "_law_way"] ["_law_purse_here"] (defScope s__law_step) := ⟨rfl, rfl, rfl, by decide +kernel, rfl, by decide +kernel, by decide +kernel⟩
theorem ok__law_step (T : Tx K mg a t_MOST_TOKENS) : FnOk P w K mg base CX0 2 a.a__law_step a.d__law_step ["_law_purse_here"] (spStep) := by
  have G__law_take := @ok__law_take P w _ _ base _ _ T
  refine T.F__law_step.ok sc__law_step (fun vs H Q E h => ?_) (fun cdv A outer s H vs Q E hr h => ?_)
  · obtain ⟨p, rfl, _⟩ := h; rfl
  · have nd := sc__law_step.nd
    have hu := hr.units
    obtain ⟨p, rfl, hp, q⟩ := h
    refine ⟨_, (@bl_out _ _ _ (@bl_c _ _ _ _ _ _ (ps_set (i := 1) nd rfl (by first | exact Or.inl rfl | exact Or.inr rfl) (pe_call G__law_take (hr.mono (by decide)) rfl T.m__law_take T.k__law_take T.i__law_take .nil pass0 (@pa_out _ _ _ (@pa_c _ _ _ _ _ (pv 0) (@pa_c _ _ _ _ _ pe_int pa_n rfl) rfl)))) (@bl_c _ _ _ _ _ _ (@ps_if _ _ _ _ _ _ _ _ (@pt_cmpR _ _ _ _ _ _ _ _ op_lt (pv 1) pe_int (nomark _)) (@bl_out _ _ _ (@bl_1 _ _ _ (@ps_ret _ _ _ _ (@pe_ix _ _ _ _ _ _ _ (ix_list' rfl) (@pe_lst _ _ _ _ (@pa_out _ _ _ (@pa_c _ _ _ _ _ pe_int (@pa_c _ _ _ _ _ pe_int (@pa_c _ _ _ _ _ pe_int pa_n rfl) rfl) rfl))) (pv 1) (fun _ _ => rfl))))) pss_nil) (@bl_c _ _ _ _ _ _ (@ps_if _ _ _ _ _ _ _ _ (@pt_cmpR _ _ _ _ _ _ _ _ op_eq (pv 1) pe_int (nomark _)) (@bl_out _ _ _ (@bl_1 _ _ _ (@ps_ret _ _ _ _ (@pe_op _ _ _ _ _ _ _ _ op_add pe_int (pe_call G__law_take (hr.mono (by decide)) rfl T.m__law_take T.k__law_take T.i__law_take .nil pass0 (@pa_out _ _ _ (@pa_c _ _ _ _ _ (pv 0) (@pa_c _ _ _ _ _ pe_int pa_n rfl) rfl))))))) pss_nil) (@bl_1 _ _ _ (@ps_ret _ _ _ _ (@pe_op _ _ _ _ _ _ _ _ op_add pe_int (pe_call G__law_take (hr.mono (by decide)) rfl T.m__law_take T.k__law_take T.i__law_take .nil pass0 (@pa_out _ _ _ (@pa_c _ _ _ _ _ (pv 0) (@pa_c _ _ _ _ _ (@pe_op _ _ _ _ _ _ _ _ op_mul pe_int (@pe_op _ _ _ _ _ _ _ _ op_pow pe_int pe_int)) pa_n rfl) rfl)))))))))), ?_⟩
    have s3 : 3 ≤ sizeLine := by rw [sizeLine_eq]; decide
    refine ⟨_, rfl, p, _, rfl, by decide, by decide, hp, fun d H1 d0 d1 g1 => ⟨_, rfl, _, _, rfl, rfl, _, rfl, iteD (fun h1 => ?_) fun h1 => ?_⟩⟩
    · obtain ⟨v, hv, v0, v1⟩ : ∃ v : Int, atI [V.int 0, V.int 1, V.int 1] d = some (V.int v) ∧ 0 ≤ v ∧ v ≤ 1 := by
        obtain rfl | rfl | rfl : d = 0 ∨ d = 1 ∨ d = 2 := by omega
        · exact ⟨0, rfl, by decide, by decide⟩
        · exact ⟨1, rfl, by decide, by decide⟩
        · exact ⟨1, rfl, by decide, by decide⟩
      exact ⟨s3, fun l hl => ⟨_, rfl, l, _, _, _, rfl, rfl, SqL.of upd_same, hv, q _ _ v0 (by omega) (g1.new hl)⟩⟩
    · refine ⟨_, rfl, rfl, _, rfl, iteD (fun h2 => ?_) fun h2 => ?_⟩
      · exact ⟨_, rfl, p, _, rfl, by decide, by decide, g1.2, fun e H2 e0 e1 g2 => ⟨_, _, rfl, rfl, q _ _ (by omega) (by omega) (g1.trans g2)⟩⟩
      · have e16 : (16 : Int) * 10 ^ Int.toNat 6 = 16000000 := by decide
        refine ⟨_, rfl, _, _, rfl, rfl, ⟨by decide, by decide, by decide⟩, _, _, rfl, rfl, .inl ⟨by decide, by decide⟩, p, _, rfl, by decide, by decide, g1.2, fun e H2 e0 e1 g2 => ⟨_, _, rfl, rfl, q _ _ (by omega) (by rw [e16] at e1; omega) (g1.trans g2)⟩⟩
theorem sc__law_meetings : FnScope ["_law_purse_here", "_law_walkers", "_law_most", "_law_found", "_law_when", "_law_busy", "_law_k", "_law_one", "_law_other", "_law_gap", "_law_passed", "_law_late"] ["_law_purse_here", "_law_walkers", "_law_most"] (defScope s__law_meetings) := ⟨rfl, rfl, rfl, by decide +kernel, rfl, by decide +kernel, by decide +kernel⟩
theorem ok__law_meetings (T : Tx K mg a t_MOST_TOKENS) : FnOk P w K mg base CX0 3 a.a__law_meetings a.d__law_meetings ["_law_purse_here", "_law_walkers", "_law_most"] (spMeetings) := by
  have G__law_take := @ok__law_take P w _ _ base _ _ T
  have G__law_step := @ok__law_step P w _ _ base _ _ T
  refine T.F__law_meetings.ok sc__law_meetings (fun vs H Q E h => ?_) (fun cdv A outer s H vs Q E hr h => ?_)
  · obtain ⟨p, w, n, rfl, _⟩ := h; rfl
  · have nd := sc__law_meetings.nd
    have hu := hr.units
    obtain ⟨p, w, n, rfl, hn, w9, hw, hp, q⟩ := h
    refine ⟨_, (@bl_out _ _ _ (@bl_c _ _ _ _ _ _ (ps_set (i := 3) nd rfl (by first | exact Or.inl rfl | exact Or.inr rfl) (@pe_lst _ _ _ _ pa_nil)) (@bl_c _ _ _ _ _ _ (ps_set (i := 4) nd rfl (by first | exact Or.inl rfl | exact Or.inr rfl) (@pe_op _ _ _ _ _ _ _ _ op_add pe_int (@pe_op _ _ _ _ _ _ _ _ op_mul (@pe_op _ _ _ _ _ _ _ _ op_fdivB (pe_call G__law_take (hr.mono (by decide)) rfl T.m__law_take T.k__law_take T.i__law_take .nil pass0 (@pa_out _ _ _ (@pa_c _ _ _ _ _ (pv 0) (@pa_c _ _ _ _ _ pe_int pa_n rfl) rfl))) pe_int) (pe_call G__law_take (hr.mono (by decide)) rfl T.m__law_take T.k__law_take T.i__law_take .nil pass0 (@pa_out _ _ _ (@pa_c _ _ _ _ _ (pv 0) (@pa_c _ _ _ _ _ (@pe_op _ _ _ _ _ _ _ _ op_pow pe_int pe_int) pa_n rfl) rfl)))))) (@bl_c _ _ _ _ _ _ (ps_set (i := 5) nd rfl (by first | exact Or.inl rfl | exact Or.inr rfl) (@pe_lst _ _ _ _ pa_nil)) (@bl_c _ _ _ _ _ _ (ps_for PassesOwn.never rfl (pi_range1 rfl T.b_range (@pa_out _ _ _ (@pa_c _ _ _ _ _ (pv 2) pa_n rfl))) (pg_name (i := 6) nd rfl (by first | exact Or.inl rfl | exact Or.inr rfl)) (@bl_out _ _ _ (@bl_c _ _ _ _ _ _ (ps_set (i := 7) nd rfl (by first | exact Or.inl rfl | exact Or.inr rfl) (pe_call G__law_take (hr.mono (by decide)) rfl T.m__law_take T.k__law_take T.i__law_take .nil pass0 (@pa_out _ _ _ (@pa_c _ _ _ _ _ (pv 0) (@pa_c _ _ _ _ _ (pv 1) pa_n rfl) rfl)))) (@bl_c _ _ _ _ _ _ (ps_set (i := 8) nd rfl (by first | exact Or.inl rfl | exact Or.inr rfl) (@pe_op _ _ _ _ _ _ _ _ op_mod (@pe_op _ _ _ _ _ _ _ _ op_add (@pe_op _ _ _ _ _ _ _ _ op_add (pv 7) pe_int) (pe_call G__law_take (hr.mono (by decide)) rfl T.m__law_take T.k__law_take T.i__law_take .nil pass0 (@pa_out _ _ _ (@pa_c _ _ _ _ _ (pv 0) (@pa_c _ _ _ _ _ (@pe_op _ _ _ _ _ _ _ _ op_sub (pv 1) pe_int) pa_n rfl) rfl)))) (pv 1))) (@bl_c _ _ _ _ _ _ (ps_set (i := 9) nd rfl (by first | exact Or.inl rfl | exact Or.inr rfl) (pe_call G__law_step (hr.mono (by decide)) rfl T.m__law_step T.k__law_step T.i__law_step .nil pass0 (@pa_out _ _ _ (@pa_c _ _ _ _ _ (pv 0) pa_n rfl)))) (@bl_c _ _ _ _ _ _ (@ps_if _ _ _ _ _ _ _ _ (@PW.pt _ _ _ (@pw_or _ _ _ _ _ _ _ (@pt_cmpR _ _ _ _ _ _ _ _ (op_in_seq' rfl) (pv 7) (pv 5) rfl) (@pw_or1 _ _ _ _ (@pt_cmpR _ _ _ _ _ _ _ _ (op_in_seq' rfl) (pv 8) (pv 5) rfl)))) (@bl_out _ _ _ (@bl_1 _ _ _ (ps_set (i := 9) nd rfl (by first | exact Or.inl rfl | exact Or.inr rfl) (pe_callB (call_max2 rfl) (by rfl) T.b_max PyProof.Rows.boot_max (@pa_out _ _ _ (@pa_c _ _ _ _ _ pe_int (@pa_c _ _ _ _ _ (pv 9) pa_n rfl) rfl)))))) pss_nil) (@bl_c _ _ _ _ _ _ (@ps_if _ _ _ _ _ _ _ _ (@pt_cmpR _ _ _ _ _ _ _ _ op_gt (pv 9) pe_int (nomark _)) (@bl_out _ _ _ (@bl_1 _ _ _ (ps_set (i := 5) nd rfl (by first | exact Or.inl rfl | exact Or.inr rfl) (@pe_lst _ _ _ _ pa_nil)))) pss_nil) (@bl_c _ _ _ _ _ _ (ps_set (i := 4) nd rfl (by first | exact Or.inl rfl | exact Or.inr rfl) (@pe_op _ _ _ _ _ _ _ _ op_add (pv 4) (pv 9))) (@bl_c _ _ _ _ _ _ (ps_set (i := 5) nd rfl (by first | exact Or.inl rfl | exact Or.inr rfl) (@pe_op _ _ _ _ _ _ _ _ op_cat (pv 5) (@pe_lst _ _ _ _ (@pa_out _ _ _ (@pa_c _ _ _ _ _ (pv 7) (@pa_c _ _ _ _ _ (pv 8) pa_n rfl) rfl))))) (@bl_c _ _ _ _ _ _ (ps_set (i := 10) nd rfl (by first | exact Or.inl rfl | exact Or.inr rfl) (@pe_op _ _ _ _ _ _ _ _ op_add pe_int (@pe_op _ _ _ _ _ _ _ _ op_fdivB (pe_call G__law_take (hr.mono (by decide)) rfl T.m__law_take T.k__law_take T.i__law_take .nil pass0 (@pa_out _ _ _ (@pa_c _ _ _ _ _ (pv 0) (@pa_c _ _ _ _ _ pe_int pa_n rfl) rfl))) pe_int))) (@bl_c _ _ _ _ _ _ (@ps_if _ _ _ _ _ _ _ _ (@pt_cmpR _ _ _ _ _ _ _ _ op_eq (pe_call G__law_take (hr.mono (by decide)) rfl T.m__law_take T.k__law_take T.i__law_take .nil pass0 (@pa_out _ _ _ (@pa_c _ _ _ _ _ (pv 0) (@pa_c _ _ _ _ _ pe_int pa_n rfl) rfl))) pe_int (nomark _)) (@bl_out _ _ _ (@bl_1 _ _ _ (ps_set (i := 10) nd rfl (by first | exact Or.inl rfl | exact Or.inr rfl) (@pe_op _ _ _ _ _ _ _ _ op_add pe_int (pe_call G__law_take (hr.mono (by decide)) rfl T.m__law_take T.k__law_take T.i__law_take .nil pass0 (@pa_out _ _ _ (@pa_c _ _ _ _ _ (pv 0) (@pa_c _ _ _ _ _ pe_int pa_n rfl) rfl))))))) pss_nil) (@bl_1 _ _ _ (ps_expr (pe_bm PySem.F.plainAttrs_list PySem.F.slot_list_append PySem.F.type_list_append mt_append (pv 3) (@pa_out _ _ _ (@pa_c _ _ _ _ _ (@pe_tup _ _ _ _ _ (@pa_out _ _ _ (@pa_c _ _ _ _ _ (pv 4) (@pa_c _ _ _ _ _ (pe_callB (call_min2 rfl) (by rfl) T.b_min PyProof.Rows.boot_min (@pa_out _ _ _ (@pa_c _ _ _ _ _ (pv 7) (@pa_c _ _ _ _ _ (pv 8) pa_n rfl) rfl))) (@pa_c _ _ _ _ _ (pe_callB (call_max2 rfl) (by rfl) T.b_max PyProof.Rows.boot_max (@pa_out _ _ _ (@pa_c _ _ _ _ _ (pv 7) (@pa_c _ _ _ _ _ (pv 8) pa_n rfl) rfl))) (@pa_c _ _ _ _ _ (pv 10) pa_n rfl) rfl) rfl) rfl))) pa_n rfl)))))))))))))))) (@bl_c _ _ _ _ _ _ (ps_set (i := 11) nd rfl (by first | exact Or.inl rfl | exact Or.inr rfl) pe_int) (@bl_c _ _ _ _ _ _ (@ps_if _ _ _ _ _ _ _ _ (@PW.pt _ _ _ (@pw_and _ _ _ _ _ _ _ (@pt_cmpR _ _ _ _ _ _ _ _ op_eq (pe_call G__law_take (hr.mono (by decide)) rfl T.m__law_take T.k__law_take T.i__law_take .nil pass0 (@pa_out _ _ _ (@pa_c _ _ _ _ _ (pv 0) (@pa_c _ _ _ _ _ pe_int pa_n rfl) rfl))) pe_int (nomark _)) (@pw_and1 _ _ _ _ (@pt_cmpR _ _ _ _ _ _ _ _ (op_neNil hu) (pv 3) (@pe_lst _ _ _ _ pa_nil) (nomark _))))) (@bl_out _ _ _ (@bl_1 _ _ _ (ps_set (i := 11) nd rfl (by first | exact Or.inl rfl | exact Or.inr rfl) (@pe_op _ _ _ _ _ _ _ _ op_sub (@pe_op _ _ _ _ _ _ _ _ op_pow pe_int pe_int) (pv 4))))) pss_nil) (@bl_1 _ _ _ (@ps_ret _ _ _ _ (pe_callTy (call_tuple_of) (by rfl) T.b_tuple PyProof.Rows.boot_tuple (@pa_out _ _ _ (@pa_c _ _ _ _ _ (pe_comp (own := ["_law_then", "_law_low", "_law_high", "_law_room"]) (caps := [11]) rfl (show CompScope ["_law_then", "_law_low", "_law_high", "_law_room"] [11] ["_law_purse_here", "_law_walkers", "_law_most", "_law_found", "_law_when", "_law_busy", "_law_k", "_law_one", "_law_other", "_law_gap", "_law_passed", "_law_late"] (defScope s__law_meetings) _ from ⟨rfl, by decide +kernel, by decide +kernel, by decide +kernel, by decide +kernel⟩) (@pi_list' _ _ _ _ _ rfl (pe_callB (call_sortT) (by rfl) T.b_sorted PyProof.Rows.boot_sorted (@pa_out _ _ _ (@pa_c _ _ _ _ _ (pv 3) pa_n rfl)))) (fun _ _ _ _ => (pg_tup' (n := 4) rfl rfl (pgs_cons (pg_name (i := 0) (show List.Nodup (["_law_then", "_law_low", "_law_high", "_law_room", "_law_late"] : List Str) from by decide +kernel) rfl (by first | exact Or.inl rfl | exact Or.inr rfl)) (pgs_cons (pg_name (i := 1) (show List.Nodup (["_law_then", "_law_low", "_law_high", "_law_room", "_law_late"] : List Str) from by decide +kernel) rfl (by first | exact Or.inl rfl | exact Or.inr rfl)) (pgs_cons (pg_name (i := 2) (show List.Nodup (["_law_then", "_law_low", "_law_high", "_law_room", "_law_late"] : List Str) from by decide +kernel) rfl (by first | exact Or.inl rfl | exact Or.inr rfl)) (pgs_cons (pg_name (i := 3) (show List.Nodup (["_law_then", "_law_low", "_law_high", "_law_room", "_law_late"] : List Str) from by decide +kernel) rfl (by first | exact Or.inl rfl | exact Or.inr rfl)) pgs_nil)))))) (fun _ _ _ _ => pts_nil) (fun _ _ _ _ => (@pe_tup _ _ _ _ _ (@pa_out _ _ _ (@pa_c _ _ _ _ _ (pv 1) (@pa_c _ _ _ _ _ (pv 2) (@pa_c _ _ _ _ _ (@pe_op _ _ _ _ _ _ _ _ op_add (pv 0) (pv 4)) (@pa_c _ _ _ _ _ (pv 3) pa_n rfl) rfl) rfl) rfl))))) pa_n rfl)))))))))))), ?_⟩
    have line : 1001 ≤ sizeLine := by rw [sizeLine_eq]; decide
    have c7 : CPow 10 7 := ⟨by decide, by decide, by decide⟩
    have e7 : (10 : Int) ^ Int.toNat 7 = 10000000 := by decide
    have e64 : (2 : Int) ^ 64 > 1000 := by decide
    have e200 : (2 : Int) ^ 200 > 1000 := by decide
    refine ⟨Nat.zero_le _, fun lf hlf => ?_⟩
    have npf := hp.ne hlf
    have hp1 : Purse (upd H lf (.lst [])) p := hp.new hlf
    refine ⟨_, rfl, p, _, rfl, by decide, by decide, hp1, fun d H1 d0 d1 g1 => ⟨_, _, rfl, rfl, ⟨by decide, by decide⟩, _, rfl, _, _, rfl, rfl, c7, ?_⟩⟩
    refine ⟨p, _, rfl, by decide, by decide, g1.2, fun d2 H2 d20 d21 g2 => ⟨_, _, rfl, rfl, .inl ⟨by omega, by omega⟩, _, _, rfl, rfl, ?_⟩⟩
    rw [e7] at d21
    refine ⟨Nat.zero_le _, fun lb hlb => ?_⟩
    have fr2 := g1.trans g2
    have hlf2 : H2 lf = some (.lst []) := fr2.1 lf _ npf upd_same
    have go0 : Go p H H2 := ((Go.refl hp).new hlf).trans fr2
    refine ⟨_, rfl, _, rfl, by omega, by omega, ?_⟩
    have wh0 : 1 ≤ 1 + d / 2 * d2 ∧ 1 + d / 2 * d2 ≤ 10000000 := by
      obtain h | h : d / 2 = 0 ∨ d / 2 = 1 := by omega
      · rw [h]; omega
      · rw [h]; omega
    refine for_range (lo := 0) (n := n) (PvM p lf w n H)
      ⟨_, _, _, _, _, _, lb, [], [], rfl, by rw [upd_ne (ne_of_none hlf2 hlb)]; exact hlf2, upd_same, (ne_of_none hlf2 hlb).symm, go0.2.ne hlb, (fun _ z => nomatch z), ⟨(fun _ z => nomatch z), .nil, (fun _ z => nomatch z)⟩, rfl, by simp, wh0.1, (by have := wh0.2; simpa using this), go0.new hlb⟩ ?_ ?_
    · rintro i σ H3 hi ⟨v6, v7, v8, v9, v10, wh, lb, bs, fs, rfl, h3f, h3b, nbf, nbp, h3r, F, lenf, lenb, wh1, wh2, go⟩
      have w2 : 2 ≤ w := by omega
      refine ⟨_, rfl, _, rfl, p, w, rfl, by omega, by omega, go.2, fun one H4 o0 o1 g4 => ?_⟩
      refine ⟨_, rfl, _, _, rfl, rfl, _, rfl, _, rfl, _, _, rfl, rfl, p, _, rfl, by omega, by omega, g4.2, fun x H5 x0 x1 g5 => ⟨_, _, rfl, rfl, _, rfl, _, _, rfl, rfl, by omega, ?_⟩⟩
      have ot := oth_ok o0 o1 x0 x1
      refine ⟨_, rfl, p, rfl, g5.2, fun gap H6 gap0 gap1 g6 => ?_⟩
      have g46 := g4.trans (g5.trans g6)
      have hb6 := g46.1 lb _ nbp h3b
      have hf6 := g46.1 lf _ npf h3f
      refine ⟨_, rfl, _, rfl, lb, _, rfl, .inl (SqL.of hb6), rfl, flat_ints bs, _, rfl, iteO (fun σ H7 => ∃ gp : Int, σ = [some (.ref p), some (.int w), some (.int n), some (.ref lf), some (.int wh), some (.ref lb), some (.int (0 + (i : Int))), some (.int one), some (.int ((one + 1 + x) % w)), some (.int gp), v10, none] ∧ H6 = H7 ∧ 0 ≤ gp ∧ gp ≤ 16000000 ∧ (gp = 0 → one ∉ bs ∧ (one + 1 + x) % w ∉ bs)) ?_ (fun c1 k0 => ?_) (fun c1 k0 => ⟨_, rfl, _, rfl, lb, _, rfl, .inl (SqL.of hb6), rfl, flat_ints bs, _, rfl, iteB (fun c2 => ?_) (fun c2 => ?_)⟩)⟩
      rotate_left
      · exact ⟨_, rfl, _, _, rfl, k0 _ _ ⟨_, rfl, rfl, by split <;> omega, by split <;> omega, fun z => by split at z <;> omega⟩⟩
      · exact ⟨_, rfl, _, _, rfl, k0 _ _ ⟨_, rfl, rfl, by split <;> omega, by split <;> omega, fun z => by split at z <;> omega⟩⟩
      · have c1' : one ∉ bs := of_decide_eq_false (inV_ints.symm.trans c1)
        have c2' : (one + 1 + x) % w ∉ bs := of_decide_eq_false (inV_ints.symm.trans c2)
        exact k0 _ _ ⟨gap, rfl, rfl, by omega, by omega, fun _ => ⟨c1', c2'⟩⟩
      rintro σ H7 ⟨gp, rfl, rfl, gp0, gp1, hg⟩
      refine ⟨_, rfl, _, _, rfl, rfl, _, rfl, iteN (fun σ H7 => ∃ ly bz, σ = [some (.ref p), some (.int w), some (.int n), some (.ref lf), some (.int wh), some (.ref ly), some (.int (0 + (i : Int))), some (.int one), some (.int ((one + 1 + x) % w)), some (.int gp), v10, none] ∧ Go p H3 H7 ∧ H7 ly = some (.lst (List.map V.int bz)) ∧ ly ≠ p ∧ bz.length ≤ 2 * i ∧ ∀ z ∈ bs, gp = 0 → z ∈ bz) ?_ (fun c3 k0 => ⟨Nat.zero_le _, fun ln hln => k0 _ _ ⟨ln, [], rfl, g46.new hln, upd_same, g46.2.ne hln, Nat.zero_le _, fun _ _ z => by have := of_decide_eq_true c3; omega⟩⟩) (fun c3 => ⟨lb, bs, rfl, g46, hb6, nbp, lenb, fun _ z _ => z⟩)⟩
      rintro σ H7 ⟨ly, bz, rfl, gy, hyb, nyp, leny, hb0⟩
      have h3f' := gy.1 lf _ npf h3f
      refine ⟨_, rfl, _, rfl, _, _, rfl, rfl, ?_⟩
      refine ⟨_, rfl, _, rfl, _, rfl, by show 2 ≤ sizeLine; omega, fun l2 hl2 => ?_⟩
      have g2' := gy.new (o := HO.lst [V.int one, V.int ((one + 1 + x) % w)]) hl2
      have hyb2 := same_new (o := HO.lst [V.int one, V.int ((one + 1 + x) % w)]) hl2 _ _ hyb
      have h22 : (upd H7 l2 (HO.lst [V.int one, V.int ((one + 1 + x) % w)])) l2 = some (.lst [V.int one, V.int ((one + 1 + x) % w)]) := upd_same
      generalize upd H7 l2 (HO.lst [V.int one, V.int ((one + 1 + x) % w)]) = H8 at g2' hyb2 h22 ⊢
      refine ⟨ly, l2, _, _, rfl, rfl, hyb2, h22, (by simp only [List.length_map, List.length_cons, List.length_nil]; omega), fun l3 hl3 => ?_⟩
      have n3p : l3 ≠ p := g2'.2.ne hl3
      have n3f : l3 ≠ lf := (ne_of_none (g2'.1 lf _ npf h3f) hl3).symm
      have g3' := g2'.new (o := HO.lst (List.map V.int bz ++ [V.int one, V.int ((one + 1 + x) % w)])) hl3
      have h3b' : (upd H8 l3 (HO.lst (List.map V.int bz ++ [V.int one, V.int ((one + 1 + x) % w)]))) l3 = some (.lst (List.map V.int (bz ++ [one, (one + 1 + x) % w]))) := by rw [upd_same, List.map_append]; rfl
      generalize upd H8 l3 (HO.lst (List.map V.int bz ++ [V.int one, V.int ((one + 1 + x) % w)])) = H9 at g3' h3b' ⊢
      refine ⟨_, rfl, p, _, rfl, by decide, by decide, g3'.2, fun d4 H10 d40 d41 g10 => ⟨_, _, rfl, rfl, ⟨by decide, by decide⟩, _, _, rfl, rfl, ?_⟩⟩
      refine ⟨_, rfl, p, _, rfl, by decide, by decide, g10.2, fun d5 H11 d50 d51 g11 => ⟨rfl, _, rfl, iteN (fun σ H12 => ∃ mm : Int, σ = [some (.ref p), some (.int w), some (.int n), some (.ref lf), some (.int (wh + gp)), some (.ref l3), some (.int (0 + (i : Int))), some (.int one), some (.int ((one + 1 + x) % w)), some (.int gp), some (.int mm), none] ∧ 1 ≤ mm ∧ mm ≤ 99 ∧ Go p H9 H12) ?_ (fun c5 k0 => ⟨_, rfl, p, _, rfl, by decide, by decide, g11.2, fun d6 H12 d60 d61 g12 => ⟨_, _, rfl, rfl, k0 _ _ ⟨_, rfl, by omega, by omega, (g10.trans g11).trans g12⟩⟩⟩) (fun c5 => ⟨_, rfl, by omega, by omega, g10.trans g11⟩)⟩⟩
      rintro σ H12 ⟨mm, rfl, mm0, mm1, g12⟩
      have gall := g3'.trans g12
      have hz := gall.1 lf _ npf h3f
      refine ⟨_, rfl, .inl ⟨rfl, _, SqL.of hz⟩, _, rfl, _, rfl, _, rfl, _, _, rfl, _, rfl, _, rfl, _, _, rfl, _, rfl, by show 4 ≤ sizeLine; omega, fun t ht => ⟨lf, _, _, rfl, rfl, (by rw [upd_ne (ne_of_none hz ht)]; exact hz), (by rw [List.length_map]; omega), ?_⟩⟩
      exact PvM.step npf hlf F lenf (bs' := bz ++ [one, (one + 1 + x) % w]) (by simp only [List.length_append, List.length_cons, List.length_nil]; omega) wh1 wh2 hz (g12.1 l3 _ n3p h3b') n3f n3p (fun a ha => gall.tups go.2 _ _ (h3r a ha)) (go.trans gall) ht gp0 gp1 o0 o1 ot.1 ot.2.1 ot.2.2 mm0 mm1 hg (fun z hz1 hz2 => List.mem_append_left _ (hb0 z hz1 hz2)) (by simp) (by simp)
    · rintro σ H3 ⟨v6, v7, v8, v9, v10, wh, lb, bs, fs, rfl, h3f, h3b, nbf, nbp, h3r, F, lenf, lenb, wh1, wh2, go⟩
      have c9 : CPow 10 9 := ⟨by decide, by decide, by decide⟩
      have e9 : (10 : Int) ^ Int.toNat 9 = 1000000000 := by decide
      refine ⟨_, rfl, p, _, rfl, by decide, by decide, go.2, fun d8 H4 _ _ g4 => ⟨rfl, _, rfl, iteA (fun σ H5 => ∃ late : Int, (∃ v6 v7 v8 v9 v10, σ = [some (.ref p), some (.int w), some (.int n), some (.ref lf), some (.int wh), some (.ref lb), v6, v7, v8, v9, v10, some (.int late)]) ∧ Go p H3 H5 ∧ 0 ≤ late ∧ (fs ≠ [] → wh + late ≤ 1000000000)) ?_ (fun c k0 => ?_) (fun c => ⟨0, ⟨_, _, _, _, _, rfl⟩, g4, Int.le_refl _, fun _ => by omega⟩)⟩⟩
      rotate_left
      · have h4f := g4.1 lf _ npf h3f
        refine ⟨_, rfl, Nat.zero_le _, fun l4 hl4 => ⟨lf, l4, _, rfl, rfl, SqL.of (by rw [upd_ne (ne_of_none h4f hl4)]; exact h4f), SqL.of upd_same, _, rfl, iteB (fun c2 => ?_) (fun c2 => ?_)⟩⟩
        · exact ⟨_, _, rfl, rfl, c9, _, rfl, _, _, rfl, rfl, k0 _ _ ⟨_, ⟨_, _, _, _, _, rfl⟩, g4.new hl4, by rw [e9]; omega, fun _ => by rw [e9]; omega⟩⟩
        · exact k0 _ _ ⟨0, ⟨_, _, _, _, _, rfl⟩, g4.new hl4, Int.le_refl _, fun _ => by omega⟩
      rintro σ Hz ⟨late, ⟨v6', v7', v8', v9', v10', rfl⟩, gz, L0, L1⟩
      have hz := gz.1 lf _ npf h3f
      refine ⟨_, rfl, lf, fs.map (fun a => (a.1, a.2.row)), rfl, ?_, (by rw [List.length_map]; omega), (fun a ha => ?_), fun D qs hD pq sq => ?_⟩
      · rw [List.map_map]; exact SqL.of hz
      · obtain ⟨b, hb, rfl⟩ := List.mem_map.mp ha
        exact ⟨gz.tups go.2 _ _ (h3r b hb), by intro z; cases z⟩
      obtain ⟨rs, prs, srs, rfl⟩ := rows_back pq sq
      refine ⟨D, rfl, ⟨_, SqL.of upd_same⟩, ?_⟩
      have lrs : rs.length = n := by rw [prs.length_eq, lenf]
      have hDl : (upd Hz D (HO.lst (List.map (fun a => V.ref a.1) (List.map (fun a : Addr × M4 => (a.1, a.2.row)) rs)))) D = some (.lst (rs.map fun a => V.ref a.1)) := by rw [upd_same, List.map_map]; rfl
      have rD := fun a (ha : a ∈ rs) => (Tups.new (o := HO.lst (List.map (fun a => V.ref a.1) (List.map (fun a : Addr × M4 => (a.1, a.2.row)) rs))) hD) _ _ (gz.tups go.2 _ _ (h3r a (prs.mem_iff.mp ha)))
      have gD := (go.trans gz).new (o := HO.lst (List.map (fun a => V.ref a.1) (List.map (fun a : Addr × M4 => (a.1, a.2.row)) rs))) hD
      refine comp_list (K := K) (a := D) (xs := rs.map fun a => V.ref a.1) (fun i τ acc H5 => ∃ ps : List (Addr × M4), (∃ t0 t1 t2 t3, τ = [t0, t1, t2, t3, some (.int late)]) ∧ acc = (ps.map fun a => V.ref a.1) ∧ (ps.map (·.2)) = ((rs.take i).map fun a => a.2.late late) ∧ RowsAt H5 ps ∧ Same (upd Hz D (HO.lst (List.map (fun a => V.ref a.1) (List.map (fun a : Addr × M4 => (a.1, a.2.row)) rs)))) H5)
        ?_ (by rw [List.length_map]; omega) ?_ ?_ ?_
      · exact ⟨[], ⟨_, _, _, _, rfl⟩, rfl, rfl, (fun _ z => nomatch z), Same.refl _⟩
      · rintro i τ acc H6 ⟨ps, ⟨t0, t1, t2, t3, rfl⟩, rfl, eps, rws, sm⟩
        have := congrArg List.length eps
        rw [List.length_map, List.length_map, List.length_take] at this
        exact ⟨by rw [List.length_map]; omega, sm.seq (SqL.of hDl)⟩
      · rintro i x τ acc H5 C hx ⟨ps, ⟨t0, t1, t2, t3, rfl⟩, rfl, eps, rws, sm⟩ hC
        obtain ⟨r, hr, rfl⟩ := map_get hx
        have hrow := sm _ _ (rD r (List.mem_of_getElem? hr))
        refine ⟨r.1, _, rfl, SqT.of hrow, rfl, _, _, rfl, _, _, rfl, _, _, rfl, _, _, rfl, rfl, _, rfl, _, rfl, _, rfl, _, rfl, _, _, rfl, rfl, _, rfl, by show 4 ≤ sizeLine; omega, fun t ht => hC _ _ _ ?_⟩
        refine ⟨ps ++ [(t, r.2.late late)], ⟨_, _, _, _, rfl⟩, by rw [List.map_append]; rfl, by rw [List.map_append, take_snoc hr, List.map_append, eps]; rfl, fun a ha => ?_, sm.trans (same_new ht)⟩
        rcases List.mem_append.mp ha with h | h
        · exact same_new ht _ _ (rws a h)
        · cases List.mem_singleton.mp h
          exact upd_same
      · rintro τ acc H6 ⟨ps, ⟨t0, t1, t2, t3, rfl⟩, rfl, eps, rws, sm⟩ lt hlt
        refine ⟨lt, _, rfl, .inl ⟨SqL.of upd_same, fun t ht => q t ps _ (((gD.same sm).new hlt).new ht) upd_same ((rws.tups (Tups.new hlt)).tups (Tups.new ht)) ?_ ?_⟩⟩
        · rw [eps, List.length_map, List.take_length]
          exact F.good (by omega) L0 L1 prs srs
        · have := congrArg List.length eps
          rw [List.length_map, List.length_map, List.length_map, List.take_length] at this
          omega
theorem sc__law_book : FnScope ["_law_purse_here", "_law_most_walkers", "_law_most_meetings", "_law_walkers", "_law_most"] ["_law_purse_here", "_law_most_walkers", "_law_most_meetings"] (defScope s__law_book) := ⟨rfl, rfl, rfl, by decide +kernel, rfl, by decide +kernel, by decide +kernel⟩
theorem ok__law_book (T : Tx K mg a t_MOST_TOKENS) : FnOk P w K mg base CX0 4 a.a__law_book a.d__law_book ["_law_purse_here", "_law_most_walkers", "_law_most_meetings"] (spBook) := by
  have G__law_take := @ok__law_take P w _ _ base _ _ T
  have G__law_rooms := @ok__law_rooms P w _ _ base _ _ T
  have G__law_meetings := @ok__law_meetings P w _ _ base _ _ T
  refine T.F__law_book.ok sc__law_book (fun vs H Q E h => ?_) (fun cdv A outer s H vs Q E hr h => ?_)
  · obtain ⟨p, a, n, rfl, _⟩ := h; rfl
  · have nd := sc__law_book.nd
    have hu := hr.units
    obtain ⟨p, aw, n, rfl, a1, a2, hn, hp, q⟩ := h
    refine ⟨_, (@bl_out _ _ _ (@bl_c _ _ _ _ _ _ (ps_set (i := 3) nd rfl (by first | exact Or.inl rfl | exact Or.inr rfl) (@pe_op _ _ _ _ _ _ _ _ op_add pe_int (pe_call G__law_take (hr.mono (by decide)) rfl T.m__law_take T.k__law_take T.i__law_take .nil pass0 (@pa_out _ _ _ (@pa_c _ _ _ _ _ (pv 0) (@pa_c _ _ _ _ _ (pv 1) pa_n rfl) rfl))))) (@bl_c _ _ _ _ _ _ (ps_set (i := 4) nd rfl (by first | exact Or.inl rfl | exact Or.inr rfl) (pe_callB (call_min2 rfl) (by rfl) T.b_min PyProof.Rows.boot_min (@pa_out _ _ _ (@pa_c _ _ _ _ _ (pv 2) (@pa_c _ _ _ _ _ (pe_call G__law_take (hr.mono (by decide)) rfl T.m__law_take T.k__law_take T.i__law_take .nil pass0 (@pa_out _ _ _ (@pa_c _ _ _ _ _ (pv 0) (@pa_c _ _ _ _ _ (@pe_op _ _ _ _ _ _ _ _ op_add (pv 2) pe_int) pa_n rfl) rfl))) pa_n rfl) rfl)))) (@bl_c _ _ _ _ _ _ (@ps_if _ _ _ _ _ _ _ _ (@pt_cmpR _ _ _ _ _ _ _ _ op_eq (pv 3) pe_int (nomark _)) (@bl_out _ _ _ (@bl_1 _ _ _ (ps_set (i := 4) nd rfl (by first | exact Or.inl rfl | exact Or.inr rfl) pe_int))) pss_nil) (@bl_1 _ _ _ (@ps_ret _ _ _ _ (@pe_tup _ _ _ _ _ (@pa_out _ _ _ (@pa_c _ _ _ _ _ (pe_call G__law_rooms (hr.mono (by decide)) rfl T.m__law_rooms T.k__law_rooms T.i__law_rooms .nil pass0 (@pa_out _ _ _ (@pa_c _ _ _ _ _ (pv 0) (@pa_c _ _ _ _ _ (pv 3) pa_n rfl) rfl))) (@pa_c _ _ _ _ _ (pe_call G__law_meetings (hr.mono (by decide)) rfl T.m__law_meetings T.k__law_meetings T.i__law_meetings .nil pass0 (@pa_out _ _ _ (@pa_c _ _ _ _ _ (pv 0) (@pa_c _ _ _ _ _ (pv 3) (@pa_c _ _ _ _ _ (pv 4) pa_n rfl) rfl) rfl))) pa_n rfl) rfl))))))))), ?_⟩
    have line : 1001 ≤ sizeLine := by rw [sizeLine_eq]; decide
    have e200 : (2 : Int) ^ 200 > 1000 := by decide
    refine ⟨_, rfl, _, rfl, p, aw, rfl, by omega, by omega, hp, fun d H1 d0 d1 g1 => ⟨_, _, rfl, rfl, ?_⟩⟩
    obtain ⟨k, rfl⟩ := Int.eq_ofNat_of_zero_le d0
    refine ⟨_, rfl, _, rfl, _, rfl, _, _, rfl, rfl, p, _, rfl, by omega, by omega, g1.2, fun e H2 e0 e1 g2 => ⟨_, _, rfl, ?_⟩⟩
    obtain ⟨m, em, hm⟩ : ∃ m : Nat, (if e < (n : Int) then e else (n : Int)) = m ∧ m ≤ n := by
      refine ⟨(if e < (n : Int) then e else (n : Int)).toNat, ?_, ?_⟩ <;> split <;> omega
    refine ⟨_, rfl, rfl, _, rfl, iteN (fun σ H3 => ∃ m : Nat, σ = [some (.ref p), some (.int aw), some (.int n), some (.int (1 + (k : Int))), some (.int m)] ∧ m ≤ n ∧ (m = 0 ∨ 1 ≤ k) ∧ Go p H H3) ?_ (fun c k0 => k0 _ _ ⟨0, rfl, Nat.zero_le _, .inl rfl, g1.trans g2⟩) (fun c => ⟨m, by rw [← em]; rfl, hm, .inr (by
        by_cases hk : k = 0
        · subst hk; exact absurd c (by simp)
        · omega), g1.trans g2⟩)⟩
    rintro σ H2 ⟨m, rfl, hm, hk, g2⟩
    refine ⟨_, rfl, _, rfl, p, 1 + k, by simp, by omega, g2.2, fun tr rooms H3 g3 h3 l3 r3 => ⟨_, rfl, _, rfl, _, rfl, p, _, m, rfl, by omega, by omega, by omega, g3.2, fun tm ps H4 g4 h4 r4 gd l4 => ⟨by show 2 ≤ sizeLine; omega, fun b hb => ?_⟩⟩⟩
    have h3' := g4.tups g3.2 _ _ h3
    have tn := Tups.new (o := HO.tup [V.ref tr, V.ref tm]) hb
    refine q b rooms tr tm ps _ ((g2.trans (g3.trans g4)).new hb) ⟨upd_same, tn _ _ h3', tn _ _ h4, r4.tups tn⟩ (by omega) (by omega) r3 ?_ (by omega)
    rw [l3]
    simpa using gd
theorem sc__law_time : FnScope ["_law_purse_here", "_law_book_here", "_law_later", "_law_way", "_law_at"] ["_law_purse_here", "_law_book_here", "_law_later"] (defScope s__law_time) := ⟨rfl, rfl, rfl, by decide +kernel, rfl, by decide +kernel, by decide +kernel⟩
theorem ok__law_time (T : Tx K mg a t_MOST_TOKENS) : FnOk P w K mg base CX0 3 a.a__law_time a.d__law_time ["_law_purse_here", "_law_book_here", "_law_later"] (spTimeOf) := by
  have G__law_take := @ok__law_take P w _ _ base _ _ T
  have G__law_far := @ok__law_far P w _ _ base _ _ T
  refine T.F__law_time.ok sc__law_time (fun vs H Q E h => ?_) (fun cdv A outer s H vs Q E hr h => ?_)
  · obtain ⟨p, b, j, _, _, _, _, rfl, _⟩ := h; rfl
  · have nd := sc__law_time.nd
    have hu := hr.units
    obtain ⟨p, b, j, rooms, tr, tm, ps, rfl, hj, hb, gd, hp, q⟩ := h
    refine ⟨_, (@bl_out _ _ _ (@bl_c _ _ _ _ _ _ (ps_set (i := 3) nd rfl (by first | exact Or.inl rfl | exact Or.inr rfl) (pe_call G__law_take (hr.mono (by decide)) rfl T.m__law_take T.k__law_take T.i__law_take .nil pass0 (@pa_out _ _ _ (@pa_c _ _ _ _ _ (pv 0) (@pa_c _ _ _ _ _ pe_int pa_n rfl) rfl)))) (@bl_c _ _ _ _ _ _ (@ps_if _ _ _ _ _ _ _ _ (@pt_cmpR _ _ _ _ _ _ _ _ op_eq (pv 3) pe_int (nomark _)) (@bl_out _ _ _ (@bl_1 _ _ _ (@ps_ret _ _ _ _ (@pe_ix _ _ _ _ _ _ _ (ix_list' rfl) (@pe_lst _ _ _ _ (@pa_out _ _ _ (@pa_c _ _ _ _ _ pe_int (@pa_c _ _ _ _ _ (@pe_op _ _ _ _ _ _ _ _ op_pow pe_int pe_int) pa_n rfl) rfl))) (pv 2) (fun _ _ => rfl))))) pss_nil) (@bl_c _ _ _ _ _ _ (@ps_if _ _ _ _ _ _ _ _ (@pt_cmpR _ _ _ _ _ _ _ _ op_eq (pv 3) pe_int (nomark _)) (@bl_out _ _ _ (@bl_1 _ _ _ (@ps_ret _ _ _ _ (pe_call G__law_far (hr.mono (by decide)) rfl T.m__law_far T.k__law_far T.i__law_far .nil pass0 (@pa_out _ _ _ (@pa_c _ _ _ _ _ (pv 0) pa_n rfl)))))) pss_nil) (@bl_c _ _ _ _ _ _ (@ps_if _ _ _ _ _ _ _ _ (@pt_cmpR _ _ _ _ _ _ _ _ (op_eqUnit hu) (@pe_ix _ _ _ _ _ _ _ (ix_tup' rfl) (pv 1) pe_int (fun _ _ => rfl)) (@pe_tup _ _ _ _ _ pa_nil) (nomark _)) (@bl_out _ _ _ (@bl_1 _ _ _ (@ps_ret _ _ _ _ (pe_call G__law_take (hr.mono (by decide)) rfl T.m__law_take T.k__law_take T.i__law_take .nil pass0 (@pa_out _ _ _ (@pa_c _ _ _ _ _ (pv 0) (@pa_c _ _ _ _ _ pe_int pa_n rfl) rfl)))))) pss_nil) (@bl_c _ _ _ _ _ _ (ps_set (i := 4) nd rfl (by first | exact Or.inl rfl | exact Or.inr rfl) (pe_call G__law_take (hr.mono (by decide)) rfl T.m__law_take T.k__law_take T.i__law_take .nil pass0 (@pa_out _ _ _ (@pa_c _ _ _ _ _ (pv 0) (@pa_c _ _ _ _ _ (pe_callB (call_len_seq' rfl) (by rfl) T.b_len PySem.boot_len (@pa_out _ _ _ (@pa_c _ _ _ _ _ (@pe_ix _ _ _ _ _ _ _ (ix_tup' rfl) (pv 1) pe_int (fun _ _ => rfl)) pa_n rfl))) pa_n rfl) rfl)))) (@bl_c _ _ _ _ _ _ (@ps_if _ _ _ _ _ _ _ _ (@pt_cmpR _ _ _ _ _ _ _ _ op_gt (pv 3) pe_int (nomark _)) (@bl_out _ _ _ (@bl_1 _ _ _ (ps_set (i := 4) nd rfl (by first | exact Or.inl rfl | exact Or.inr rfl) (@pe_ix _ _ _ _ _ _ _ (ix_list' rfl) (@pe_lst _ _ _ _ (@pa_out _ _ _ (@pa_c _ _ _ _ _ (@pe_op _ _ _ _ _ _ _ _ op_fdivB (pv 4) pe_int) (@pa_c _ _ _ _ _ (@pe_op _ _ _ _ _ _ _ _ op_fdivB (@pe_op _ _ _ _ _ _ _ _ op_add (pv 4) (pe_callB (call_len_seq' rfl) (by rfl) T.b_len PySem.boot_len (@pa_out _ _ _ (@pa_c _ _ _ _ _ (@pe_ix _ _ _ _ _ _ _ (ix_tup' rfl) (pv 1) pe_int (fun _ _ => rfl)) pa_n rfl)))) pe_int) pa_n rfl) rfl))) (pv 2) (fun _ _ => rfl))))) pss_nil) (@bl_1 _ _ _ (@ps_ret _ _ _ _ (@pe_op _ _ _ _ _ _ _ _ op_sub (@pe_ix _ _ _ _ _ _ _ (ix_tup' rfl) (@pe_ix _ _ _ _ _ _ _ (ix_tup' rfl) (@pe_ix _ _ _ _ _ _ _ (ix_tup' rfl) (pv 1) pe_int (fun _ _ => rfl)) (pv 4) (fun _ _ => rfl)) pe_int (fun _ _ => rfl)) (@pe_ix _ _ _ _ _ _ _ (ix_list' rfl) (@pe_lst _ _ _ _ (@pa_out _ _ _ (@pa_c _ _ _ _ _ pe_int (@pa_c _ _ _ _ _ pe_int pa_n rfl) rfl))) (@pe_op _ _ _ _ _ _ _ _ op_xor (@pe_op _ _ _ _ _ _ _ _ op_fdivB (pe_call G__law_take (hr.mono (by decide)) rfl T.m__law_take T.k__law_take T.i__law_take .nil pass0 (@pa_out _ _ _ (@pa_c _ _ _ _ _ (pv 0) (@pa_c _ _ _ _ _ pe_int pa_n rfl) rfl))) pe_int) (pv 2)) (fun _ _ => rfl)))))))))))), ?_⟩
    have line : 1002 ≤ sizeLine := by rw [sizeLine_eq]; decide
    have e200 : (2 : Int) ^ 200 > 10000 := by decide
    have c9 : CPow 10 9 := ⟨by decide, by decide, by decide⟩
    have e9 : (10 : Int) ^ Int.toNat 9 = 1000000000 := by decide
    have l60 := gd.len
    refine ⟨_, rfl, p, _, rfl, by decide, by decide, hp, fun way H1 w0 w1 g1 => ?_⟩
    refine ⟨_, rfl, rfl, _, rfl, iteD (fun c => ?_) (fun c => ⟨_, rfl, rfl, _, rfl, iteD (fun c => ?_) (fun c => ?_)⟩)⟩
    · refine ⟨_, _, rfl, rfl, c9, by show 2 ≤ sizeLine; omega, fun l hl => ⟨_, rfl, ?_⟩⟩
      rcases hj with rfl | rfl
      · exact ⟨l, _, _, _, rfl, rfl, SqL.of upd_same, rfl, q _ _ (by omega) (by omega) (g1.new hl)⟩
      · exact ⟨l, _, _, _, rfl, rfl, SqL.of upd_same, rfl, q _ _ (by rw [e9]; decide) (by rw [e9]; decide) (g1.new hl)⟩
    · exact ⟨_, rfl, p, rfl, g1.2, fun d H2 d0 d1 g2 => q _ _ d0 d1 (g1.trans g2)⟩
    have hb1 := hb.tups (g1.tups hp)
    refine ⟨_, rfl, b, _, _, _, rfl, rfl, SqT.of hb1.book, rfl, Nat.zero_le _, fun u hu2 => ?_⟩
    have hb2 := hb1.tups (Tups.new (o := HO.tup []) hu2)
    have g2 := g1.new (o := HO.tup []) hu2
    refine ⟨tm, u, _, rfl, rfl, SqT.of hb2.meets, SqT.of upd_same, _, rfl, iteB (fun c2 => ?_) (fun c2 => ?_)⟩
    · exact ⟨_, rfl, p, _, rfl, by decide, by decide, g2.2, fun d H3 d0 d1 g3 => q _ _ d0 (by omega) (g2.trans g3)⟩
    have lps : 1 ≤ ps.length := by
      cases ps with
      | nil => cases c2
      | cons _ _ => simp
    refine ⟨_, rfl, _, rfl, b, _, _, _, rfl, rfl, SqT.of hb2.book, rfl, tm, _, rfl, .inr (SqT.of hb2.meets), p, _, rfl, by rw [List.length_map]; omega, by rw [List.length_map]; omega, g2.2, fun d H3 d0 d1 g3 => ?_⟩
    rw [List.length_map] at d1
    have hb3 := hb2.tups (g3.tups g2.2)
    have gg3 := g2.trans g3
    refine ⟨_, rfl, _, _, rfl, rfl, _, rfl, iteD (fun c3 => ?_) (fun c3 => ?_)⟩
    · refine ⟨_, rfl, _, _, rfl, rfl, ⟨by decide, by decide⟩, _, rfl, _, rfl, b, _, _, _, rfl, rfl, SqT.of hb3.book, rfl, tm, _, rfl, .inr (SqT.of hb3.meets), _, _, rfl, rfl, _, _, rfl, rfl, ⟨by decide, by decide⟩, by show 2 ≤ sizeLine; omega, fun l hl => ⟨_, rfl, ?_⟩⟩
      have gx := gg3.new (o := HO.lst [V.int (d / 2), V.int ((d + ((ps.map fun a => V.ref a.1).length : Int)) / 2)]) hl
      have hx := hb3.tups (Tups.new (o := HO.lst [V.int (d / 2), V.int ((d + ((ps.map fun a => V.ref a.1).length : Int)) / 2)]) hl)
      obtain ⟨k, ek, hk⟩ : ∃ k : Nat, atI [V.int (d / 2), V.int ((d + ((ps.map fun a => V.ref a.1).length : Int)) / 2)] j = some (V.int (k : Int)) ∧ k < ps.length := by
        rcases hj with rfl | rfl
        · obtain ⟨k, hk⟩ := Int.eq_ofNat_of_zero_le (show 0 ≤ d / 2 by omega)
          exact ⟨k, by rw [← hk]; rfl, by omega⟩
        · obtain ⟨k, hk⟩ := Int.eq_ofNat_of_zero_le (show 0 ≤ (d + ((ps.map fun a => V.ref a.1).length : Int)) / 2 by omega)
          refine ⟨k, by rw [← hk]; rfl, ?_⟩
          rw [List.length_map] at hk
          omega
      refine ⟨l, _, _, _, rfl, rfl, SqL.of upd_same, ek, ?_⟩
      refine ⟨_, rfl, b, _, _, _, rfl, rfl, SqT.of hx.book, rfl, _, rfl, tm, _, _, _, rfl, rfl, SqT.of hx.meets, atI_nat (v := V.ref ps[k].1) (by simp [hk]), ps[k].1, _, _, _, rfl, rfl, SqT.of (hx.rows _ (List.getElem_mem hk)), rfl, by show 2 ≤ sizeLine; omega, fun l9 hl9 => ?_⟩
      have g9 := gx.new (o := HO.lst [V.int 1, V.int 0]) hl9
      refine ⟨_, rfl, p, _, rfl, by decide, by decide, g9.2, fun e H9 e0 e1 g10 => ⟨_, _, rfl, rfl, ⟨by decide, by decide⟩, _, rfl, _, _, rfl, rfl, ?_⟩⟩
      have h9 := g10.1 l9 _ (gx.2.ne hl9) upd_same
      have tb := gd.at (List.getElem_mem hk)
      have bx : (e / 3 = 0 ∨ e / 3 = 1) := by omega
      rcases hj with rfl | rfl <;> rcases bx with bx | bx <;> rw [bx]
      · exact ⟨l9, _, _, _, rfl, rfl, SqL.of h9, (by decide : atI [V.int 1, V.int 0] (Builtin.bitXor 0 0) = some (V.int 1)), _, _, rfl, rfl, q _ _ (by omega) (by omega) (g9.trans g10)⟩
      · exact ⟨l9, _, _, _, rfl, rfl, SqL.of h9, (by decide : atI [V.int 1, V.int 0] (Builtin.bitXor 1 0) = some (V.int 0)), _, _, rfl, rfl, q _ _ (by omega) (by omega) (g9.trans g10)⟩
      · exact ⟨l9, _, _, _, rfl, rfl, SqL.of h9, (by decide : atI [V.int 1, V.int 0] (Builtin.bitXor 0 1) = some (V.int 0)), _, _, rfl, rfl, q _ _ (by omega) (by omega) (g9.trans g10)⟩
      · exact ⟨l9, _, _, _, rfl, rfl, SqL.of h9, (by decide : atI [V.int 1, V.int 0] (Builtin.bitXor 1 1) = some (V.int 1)), _, _, rfl, rfl, q _ _ (by omega) (by omega) (g9.trans g10)⟩
    · have gx := gg3
      have hx := hb3
      obtain ⟨k, rfl⟩ := Int.eq_ofNat_of_zero_le d0
      have hk : k < ps.length := by omega
      refine ⟨_, rfl, b, _, _, _, rfl, rfl, SqT.of hx.book, rfl, _, rfl, tm, _, _, _, rfl, rfl, SqT.of hx.meets, atI_nat (v := V.ref ps[k].1) (by simp [hk]), ps[k].1, _, _, _, rfl, rfl, SqT.of (hx.rows _ (List.getElem_mem hk)), rfl, by show 2 ≤ sizeLine; omega, fun l9 hl9 => ?_⟩
      have g9 := gx.new (o := HO.lst [V.int 1, V.int 0]) hl9
      refine ⟨_, rfl, p, _, rfl, by decide, by decide, g9.2, fun e H9 e0 e1 g10 => ⟨_, _, rfl, rfl, ⟨by decide, by decide⟩, _, rfl, _, _, rfl, rfl, ?_⟩⟩
      have h9 := g10.1 l9 _ (gx.2.ne hl9) upd_same
      have tb := gd.at (List.getElem_mem hk)
      have bx : (e / 3 = 0 ∨ e / 3 = 1) := by omega
      rcases hj with rfl | rfl <;> rcases bx with bx | bx <;> rw [bx]
      · exact ⟨l9, _, _, _, rfl, rfl, SqL.of h9, (by decide : atI [V.int 1, V.int 0] (Builtin.bitXor 0 0) = some (V.int 1)), _, _, rfl, rfl, q _ _ (by omega) (by omega) (g9.trans g10)⟩
      · exact ⟨l9, _, _, _, rfl, rfl, SqL.of h9, (by decide : atI [V.int 1, V.int 0] (Builtin.bitXor 1 0) = some (V.int 0)), _, _, rfl, rfl, q _ _ (by omega) (by omega) (g9.trans g10)⟩
      · exact ⟨l9, _, _, _, rfl, rfl, SqL.of h9, (by decide : atI [V.int 1, V.int 0] (Builtin.bitXor 0 1) = some (V.int 0)), _, _, rfl, rfl, q _ _ (by omega) (by omega) (g9.trans g10)⟩
      · exact ⟨l9, _, _, _, rfl, rfl, SqL.of h9, (by decide : atI [V.int 1, V.int 0] (Builtin.bitXor 1 1) = some (V.int 1)), _, _, rfl, rfl, q _ _ (by omega) (by omega) (g9.trans g10)⟩
theorem sc__law_letter : FnScope ["_law_purse_here", "_law_book_here", "_law_walkers", "_law_sender", "_law_wish", "_law_since"] ["_law_purse_here", "_law_book_here"] (defScope s__law_letter) := ⟨rfl, rfl, rfl, by decide +kernel, rfl, by decide +kernel, by decide +kernel⟩
theorem ok__law_letter (T : Tx K mg a t_MOST_TOKENS) : FnOk P w K mg base CX0 4 a.a__law_letter a.d__law_letter ["_law_purse_here", "_law_book_here"] (spLetter) := by
  have G__law_take := @ok__law_take P w _ _ base _ _ T
  have G__law_time := @ok__law_time P w _ _ base _ _ T
  refine T.F__law_letter.ok sc__law_letter (fun vs H Q E h => ?_) (fun cdv A outer s H vs Q E hr h => ?_)
  · obtain ⟨p, b, _, _, _, _, rfl, _⟩ := h; rfl
  · have nd := sc__law_letter.nd
    have hu := hr.units
    obtain ⟨p, b, rooms, tr, tm, ps, rfl, hb, r1, r2, gd, hp, q⟩ := h
    refine ⟨_, (@bl_out _ _ _ (@bl_c _ _ _ _ _ _ (ps_set (i := 2) nd rfl (by first | exact Or.inl rfl | exact Or.inr rfl) (pe_callB (call_len_seq' rfl) (by rfl) T.b_len PySem.boot_len (@pa_out _ _ _ (@pa_c _ _ _ _ _ (@pe_ix _ _ _ _ _ _ _ (ix_tup' rfl) (pv 1) pe_int (fun _ _ => rfl)) pa_n rfl)))) (@bl_c _ _ _ _ _ _ (ps_set (i := 3) nd rfl (by first | exact Or.inl rfl | exact Or.inr rfl) (pe_call G__law_take (hr.mono (by decide)) rfl T.m__law_take T.k__law_take T.i__law_take .nil pass0 (@pa_out _ _ _ (@pa_c _ _ _ _ _ (pv 0) (@pa_c _ _ _ _ _ (pv 2) pa_n rfl) rfl)))) (@bl_c _ _ _ _ _ _ (ps_set (i := 4) nd rfl (by first | exact Or.inl rfl | exact Or.inr rfl) (pe_call G__law_take (hr.mono (by decide)) rfl T.m__law_take T.k__law_take T.i__law_take .nil pass0 (@pa_out _ _ _ (@pa_c _ _ _ _ _ (pv 0) (@pa_c _ _ _ _ _ (pv 2) pa_n rfl) rfl)))) (@bl_c _ _ _ _ _ _ (@ps_if _ _ _ _ _ _ _ _ (@PW.pt _ _ _ (@pw_and _ _ _ _ _ _ _ (@pt_cmpR _ _ _ _ _ _ _ _ op_eq (pv 3) (pv 4) (nomark _)) (@pw_and1 _ _ _ _ (@pt_cmpR _ _ _ _ _ _ _ _ op_gt (pe_call G__law_take (hr.mono (by decide)) rfl T.m__law_take T.k__law_take T.i__law_take .nil pass0 (@pa_out _ _ _ (@pa_c _ _ _ _ _ (pv 0) (@pa_c _ _ _ _ _ pe_int pa_n rfl) rfl))) pe_int (nomark _))))) (@bl_out _ _ _ (@bl_1 _ _ _ (ps_set (i := 4) nd rfl (by first | exact Or.inl rfl | exact Or.inr rfl) (@pe_op _ _ _ _ _ _ _ _ op_mod (@pe_op _ _ _ _ _ _ _ _ op_add (pv 4) pe_int) (pv 2))))) pss_nil) (@bl_c _ _ _ _ _ _ (ps_set (i := 5) nd rfl (by first | exact Or.inl rfl | exact Or.inr rfl) (pe_call G__law_time (hr.mono (by decide)) rfl T.m__law_time T.k__law_time T.i__law_time .nil pass0 (@pa_out _ _ _ (@pa_c _ _ _ _ _ (pv 0) (@pa_c _ _ _ _ _ (pv 1) (@pa_c _ _ _ _ _ pe_int pa_n rfl) rfl) rfl)))) (@bl_1 _ _ _ (@ps_ret _ _ _ _ (@pe_tup _ _ _ _ _ (@pa_out _ _ _ (@pa_c _ _ _ _ _ (pv 3) (@pa_c _ _ _ _ _ (pv 5) (@pa_c _ _ _ _ _ (pv 4) (@pa_c _ _ _ _ _ (pe_call G__law_time (hr.mono (by decide)) rfl T.m__law_time T.k__law_time T.i__law_time .nil pass0 (@pa_out _ _ _ (@pa_c _ _ _ _ _ (pv 0) (@pa_c _ _ _ _ _ (pv 1) (@pa_c _ _ _ _ _ pe_int pa_n rfl) rfl) rfl))) pa_n rfl) rfl) rfl) rfl))))))))))), ?_⟩
    have line : 1002 ≤ sizeLine := by rw [sizeLine_eq]; decide
    have e200 : (2 : Int) ^ 200 > 10000 := by decide
    have rl : (rooms.map V.int).length = rooms.length := List.length_map _
    have fin : ∀ s w : Int, 0 ≤ s → s < rooms.length → 0 ≤ w → w < rooms.length → ∀ H3, Go p H H3 → spTimeOf [.ref p, .ref b, .int 0] H3 (fun x H4 => spTimeOf [.ref p, .ref b, .int 1] H4 (fun y H5 => 4 ≤ sizeLine ∧ ∀ t, H5 t = none → Q (.ref t) (upd H5 t (.tup [.int s, x, .int w, y]))) E0) E0 := by
      intro s w s0 s1 w0 w1 H3 g3
      have hb3 := hb.tups (g3.tups hp)
      refine ⟨p, b, 0, rooms, tr, tm, ps, rfl, .inl rfl, hb3, gd, g3.2, fun x H4 x0 x1 g4 => ?_⟩
      exact ⟨p, b, 1, rooms, tr, tm, ps, rfl, .inr rfl, hb3.tups (g4.tups g3.2), gd, g4.2, fun y H5 y0 y1 g5 => ⟨by omega, fun t ht => q t s x w y _ ((g3.trans (g4.trans g5)).new ht) upd_same s0 s1 w0 w1 x0 x1 y0 y1⟩⟩
    refine ⟨_, rfl, b, _, _, _, rfl, rfl, SqT.of hb.book, rfl, tr, _, rfl, .inr (SqT.of hb.rooms), ?_⟩
    refine ⟨_, rfl, _, rfl, p, _, rfl, by omega, by omega, hp, fun s H1 s0 s1 g1 => ⟨_, rfl, _, rfl, p, _, rfl, by omega, by omega, g1.2, fun w H2 w0 w1 g2 => ?_⟩⟩
    refine ⟨_, rfl, _, rfl, rfl, _, rfl, iteD (fun c => ?_) (fun c => iteB0 rfl ?_)⟩
    · refine ⟨_, rfl, p, _, rfl, by decide, by decide, g2.2, fun e H3 e0 e1 g3 => ⟨_, _, rfl, rfl, _, rfl, iteD (fun c2 => ?_) (fun c2 => ?_)⟩⟩
      · refine ⟨_, rfl, _, _, rfl, rfl, _, rfl, _, _, rfl, rfl, by omega, ?_⟩
        have := fin s ((w + 1) % (((rooms.map V.int).length : Nat) : Int)) s0 (by omega) (Int.emod_nonneg _ (by omega)) (by have := Int.emod_lt_of_pos (w + 1) (show (0 : Int) < ((rooms.map V.int).length : Nat) by omega); omega) H3 (g1.trans (g2.trans g3))
        simp only [gTup, gCons, gNil, tYes, tBM, rAppend, gSub, tAugS, ipI, rU, rIxL, rIxT, rSetL, tSeq, tAsg, tIfS, tRet, tOp, tUn, rI0, rI, tVar, tC, gName, tCall, tCB, tCons, tNil, tAndV, tOrV, tNotV, tNext, tTest, tB, tNot, tAnd, tOr, tDrop, rEq, rNe, scal, tChain, tTup, tLst, tSl, tNoPart, tPart, cxOf, L2.start, List.map_cons, List.map_nil, List.length_cons, List.length_nil, Nat.reduceAdd, Nat.reduceSub, List.replicate, List.cons_append, List.nil_append, List.append_nil, List.getElem?_cons_zero, List.getElem?_cons_succ, Option.some.injEq, exists_eq_left', exists_eq_left, exists_and_left, and_assoc, V.int.injEq, V.ty.injEq, V.str.injEq, V.bl.injEq, V.ref.injEq, List.cons.injEq, and_true, true_and, List.set_cons_zero, List.set_cons_succ]
        exact this
      · have := fin s w s0 (by omega) w0 (by omega) H3 (g1.trans (g2.trans g3))
        simp only [gTup, gCons, gNil, tYes, tBM, rAppend, gSub, tAugS, ipI, rU, rIxL, rIxT, rSetL, tSeq, tAsg, tIfS, tRet, tOp, tUn, rI0, rI, tVar, tC, gName, tCall, tCB, tCons, tNil, tAndV, tOrV, tNotV, tNext, tTest, tB, tNot, tAnd, tOr, tDrop, rEq, rNe, scal, tChain, tTup, tLst, tSl, tNoPart, tPart, cxOf, L2.start, List.map_cons, List.map_nil, List.length_cons, List.length_nil, Nat.reduceAdd, Nat.reduceSub, List.replicate, List.cons_append, List.nil_append, List.append_nil, List.getElem?_cons_zero, List.getElem?_cons_succ, Option.some.injEq, exists_eq_left', exists_eq_left, exists_and_left, and_assoc, V.int.injEq, V.ty.injEq, V.str.injEq, V.bl.injEq, V.ref.injEq, List.cons.injEq, and_true, true_and, List.set_cons_zero, List.set_cons_succ]
        exact this
    · have := fin s w s0 (by omega) w0 (by omega) H2 (g1.trans g2)
      simp only [gTup, gCons, gNil, tYes, tBM, rAppend, gSub, tAugS, ipI, rU, rIxL, rIxT, rSetL, tSeq, tAsg, tIfS, tRet, tOp, tUn, rI0, rI, tVar, tC, gName, tCall, tCB, tCons, tNil, tAndV, tOrV, tNotV, tNext, tTest, tB, tNot, tAnd, tOr, tDrop, rEq, rNe, scal, tChain, tTup, tLst, tSl, tNoPart, tPart, cxOf, L2.start, List.map_cons, List.map_nil, List.length_cons, List.length_nil, Nat.reduceAdd, Nat.reduceSub, List.replicate, List.cons_append, List.nil_append, List.append_nil, List.getElem?_cons_zero, List.getElem?_cons_succ, Option.some.injEq, exists_eq_left', exists_eq_left, exists_and_left, and_assoc, V.int.injEq, V.ty.injEq, V.str.injEq, V.bl.injEq, V.ref.injEq, List.cons.injEq, and_true, true_and, List.set_cons_zero, List.set_cons_succ]
      exact this
theorem sc__law_whole : FnScope ["_law_thing_here"] ["_law_thing_here"] (defScope s__law_whole) := ⟨rfl, rfl, rfl, by decide +kernel, rfl, by decide +kernel, by decide +kernel⟩
theorem ok__law_whole (T : Tx K mg a t_MOST_TOKENS) : FnOk P w K mg base CX0 1 a.a__law_whole a.d__law_whole ["_law_thing_here"] (spWhole) := by
  refine T.F__law_whole.ok sc__law_whole (fun vs H Q E h => ?_) (fun cdv A outer s H vs Q E hr h => ?_)
  · obtain ⟨x, t, rfl, _⟩ := h; rfl
  · have nd := sc__law_whole.nd
    have hu := hr.units
    obtain ⟨x, t, rfl, ht, k⟩ := h
    refine ⟨_, (@bl_out _ _ _ (@bl_1 _ _ _ (@ps_ret _ _ _ _ (@pe_and _ _ _ _ _ _ _ (pe_callB (call_isinst) (by rfl) T.b_isinstance PyProof.Rows.boot_isinstance (@pa_out _ _ _ (@pa_c _ _ _ _ _ (pv 0) (@pa_c _ _ _ _ _ (pe_bltn (v := V.ty "int") rfl T.b_int PyProof.Rows.boot_int rfl) pa_n rfl) rfl))) (@pe_one _ _ _ _ _ (@pe_not _ _ _ _ (pe_callB (call_isinst) (by rfl) T.b_isinstance PyProof.Rows.boot_isinstance (@pa_out _ _ _ (@pa_c _ _ _ _ _ (pv 0) (@pa_c _ _ _ _ _ (pe_bltn (v := V.ty "bool") rfl T.b_bool PyProof.Rows.boot_bool rfl) pa_n rfl) rfl))))))))), ?_⟩
    refine ⟨_, rfl, x, t, "int", rfl, ht, .inl rfl, _, rfl, ?_⟩
    rcases tyS_six ht with rfl | rfl | rfl | rfl | rfl | rfl | rfl <;> first | exact iteB0 rfl k | exact iteB1 rfl ⟨_, rfl, x, _, "bool", rfl, ht, .inr (.inl rfl), _, rfl, k⟩
theorem sc_is_whole : FnScope ["thing"] ["thing"] (defScope s_is_whole) := ⟨rfl, rfl, rfl, by decide +kernel, rfl, by decide +kernel, by decide +kernel⟩
theorem ok_is_whole (T : Tx K mg a t_MOST_TOKENS) : FnOk P w K mg base CX0 1 a.a_is_whole a.d_is_whole ["thing"] (spWhole) := by
  refine T.F_is_whole.ok sc_is_whole (fun vs H Q E h => ?_) (fun cdv A outer s H vs Q E hr h => ?_)
  · obtain ⟨x, t, rfl, _⟩ := h; rfl
  · have nd := sc_is_whole.nd
    have hu := hr.units
    obtain ⟨x, t, rfl, ht, k⟩ := h
    refine ⟨_, (@bl_out _ _ _ (@bl_1 _ _ _ (@ps_ret _ _ _ _ (@pe_and _ _ _ _ _ _ _ (pe_callB (call_isinst) (by rfl) T.b_isinstance PyProof.Rows.boot_isinstance (@pa_out _ _ _ (@pa_c _ _ _ _ _ (pv 0) (@pa_c _ _ _ _ _ (pe_bltn (v := V.ty "int") rfl T.b_int PyProof.Rows.boot_int rfl) pa_n rfl) rfl))) (@pe_one _ _ _ _ _ (@pe_not _ _ _ _ (pe_callB (call_isinst) (by rfl) T.b_isinstance PyProof.Rows.boot_isinstance (@pa_out _ _ _ (@pa_c _ _ _ _ _ (pv 0) (@pa_c _ _ _ _ _ (pe_bltn (v := V.ty "bool") rfl T.b_bool PyProof.Rows.boot_bool rfl) pa_n rfl) rfl))))))))), ?_⟩
    refine ⟨_, rfl, x, t, "int", rfl, ht, .inl rfl, _, rfl, ?_⟩
    rcases tyS_six ht with rfl | rfl | rfl | rfl | rfl | rfl | rfl <;> first | exact iteB0 rfl k | exact iteB1 rfl ⟨_, rfl, x, _, "bool", rfl, ht, .inr (.inl rfl), _, rfl, k⟩
theorem sc_is_within : FnScope ["thing", "least", "most"] ["thing", "least", "most"] (defScope s_is_within) := ⟨rfl, rfl, rfl, by decide +kernel, rfl, by decide +kernel, by decide +kernel⟩
theorem ok_is_within (T : Tx K mg a t_MOST_TOKENS) : FnOk P w K mg base CX0 2 a.a_is_within a.d_is_within ["thing", "least", "most"] (spWithin) := by
  have G_is_whole := @ok_is_whole P w _ _ base _ _ T
  refine T.F_is_within.ok sc_is_within (fun vs H Q E h => ?_) (fun cdv A outer s H vs Q E hr h => ?_)
  · obtain ⟨x, t, lo, hi, rfl, _⟩ := h; rfl
  · have nd := sc_is_within.nd
    have hu := hr.units
    obtain ⟨x, t, lo, hi, rfl, ht, k⟩ := h
    refine ⟨_, (@bl_out _ _ _ (@bl_1 _ _ _ (@ps_ret _ _ _ _ (@pe_and _ _ _ _ _ _ _ (pe_call G_is_whole (hr.mono (by decide)) rfl T.m_is_whole T.k_is_whole T.i_is_whole .nil pass0 (@pa_out _ _ _ (@pa_c _ _ _ _ _ (pv 0) pa_n rfl))) (@pe_one _ _ _ _ _ (pe_chain op_le op_le (pv 1) (pv 0) (pv 2))))))), ?_⟩
    refine ⟨_, rfl, x, t, rfl, ht, _, rfl, ?_⟩
    by_cases h : t = "int"
    · subst h
      obtain ⟨i, rfl⟩ := tyS_int ht
      refine iteB1 rfl ⟨_, rfl, _, rfl, _, _, rfl, rfl, _, rfl, ?_⟩
      have k : Q (.bl (decide (lo ≤ i) && decide (i ≤ hi))) H := k
      by_cases h1 : lo ≤ i
      · rw [decide_eq_true h1] at k ⊢
        exact iteB1 rfl ⟨_, rfl, _, _, rfl, rfl, k⟩
      · rw [decide_eq_false h1] at k ⊢
        exact iteB0 rfl k
    · rw [inB_no ht h] at k
      exact iteB0 (by simpa using h) k
theorem sc_AllMet___init__ : FnScope ["self"] ["self"] (defScope s_AllMet___init__) := ⟨rfl, rfl, rfl, by decide +kernel, rfl, by decide +kernel, by decide +kernel⟩
theorem ok_AllMet___init__ (T : Tx K mg a t_MOST_TOKENS) : FnOk P w K mg base CX0 1 a.a_AllMet___init__ a.d_AllMet___init__ ["self"] (spInitA) := by
  refine T.F_AllMet___init__.ok sc_AllMet___init__ (fun vs H Q E h => ?_) (fun cdv A outer s H vs Q E hr h => ?_)
  · obtain ⟨_, rfl, _⟩ := h; rfl
  · have nd := sc_AllMet___init__.nd
    have hu := hr.units
    obtain ⟨x, rfl, q⟩ := h
    refine ⟨_, (@bl_out _ _ _ (@bl_1 _ _ _ ps_pass)), ?_⟩
    exact q
theorem sc_AllMet_at_first : FnScope ["self"] ["self"] (defScope s_AllMet_at_first) := ⟨rfl, rfl, rfl, by decide +kernel, rfl, by decide +kernel, by decide +kernel⟩
theorem ok_AllMet_at_first (T : Tx K mg a t_MOST_TOKENS) : FnOk P w K mg base CX0 1 a.a_AllMet_at_first a.d_AllMet_at_first ["self"] (spFirst0) := by
  refine T.F_AllMet_at_first.ok sc_AllMet_at_first (fun vs H Q E h => ?_) (fun cdv A outer s H vs Q E hr h => ?_)
  · obtain ⟨_, rfl, _⟩ := h; rfl
  · have nd := sc_AllMet_at_first.nd
    have hu := hr.units
    obtain ⟨x, rfl, q⟩ := h
    refine ⟨_, (@bl_out _ _ _ (@bl_1 _ _ _ (@ps_ret _ _ _ _ pe_int))), ?_⟩
    exact q
theorem sc_AllMet_share : FnScope ["self", "letter", "giver", "other", "tokens"] ["self", "letter", "giver", "other", "tokens"] (defScope s_AllMet_share) := ⟨rfl, rfl, rfl, by decide +kernel, rfl, by decide +kernel, by decide +kernel⟩
theorem ok_AllMet_share (T : Tx K mg a t_MOST_TOKENS) : FnOk P w K mg base CX0 1 a.a_AllMet_share a.d_AllMet_share ["self", "letter", "giver", "other", "tokens"] (spShare0) := by
  refine T.F_AllMet_share.ok sc_AllMet_share (fun vs H Q E h => ?_) (fun cdv A outer s H vs Q E hr h => ?_)
  · obtain ⟨_, _, _, _, _, rfl, _⟩ := h; rfl
  · have nd := sc_AllMet_share.nd
    have hu := hr.units
    obtain ⟨x, l, g, o, t, rfl, q⟩ := h
    refine ⟨_, (@bl_out _ _ _ (@bl_1 _ _ _ (@ps_ret _ _ _ _ pe_int))), ?_⟩
    exact q
theorem sc_Halves___init__ : FnScope ["self", "tokens"] ["self", "tokens"] (defScope s_Halves___init__) := ⟨rfl, rfl, rfl, by decide +kernel, rfl, by decide +kernel, by decide +kernel⟩
theorem ok_Halves___init__ (T : Tx K mg a t_MOST_TOKENS) : FnOk P w K mg base (CXE P w) 3 a.a_Halves___init__ a.d_Halves___init__ ["self", "tokens"] (spInitH a.c_Halves a.c_NoRule) := by
  have G_is_within := @ok_is_within P w _ _ base _ _ T
  refine T.F_Halves___init__.okE sc_Halves___init__ (fun vs H Q E h => ?_) (fun cdv A outer s H vs Q E hr h => ?_)
  · obtain ⟨_, _, _, _, rfl, _⟩ := h; rfl
  · have nd := sc_Halves___init__.nd
    have hu := hr.units
    obtain ⟨x, dx, v, t, rfl, hx, ht, q⟩ := h
    refine ⟨_, (@bl_out _ _ _ (@bl_c _ _ _ _ _ _ (@ps_if _ _ _ _ _ _ _ _ (@pt_not _ _ _ _ (pt_val (pe_call G_is_within (hr.mono (by decide)) rfl T.m_is_within T.k_is_within T.i_is_within .nil pass0 (@pa_out _ _ _ (@pa_c _ _ _ _ _ (pv 1) (@pa_c _ _ _ _ _ pe_int (@pa_c _ _ _ _ _ (pe_glob (v := V.int 64) rfl T.c_MOST_TOKENS ⟨_, rfl⟩) pa_n rfl) rfl) rfl))))) (@bl_out _ _ _ (@bl_1 _ _ _ (ps_raise rfl rfl rfl rfl rfl T.m_NoRule T.x_NoRule))) pss_nil) (@bl_1 _ _ _ (PS.nox (ps_fld (pv 0) (pv 1) rfl))))), ?_⟩
    refine ⟨_, rfl, v, t, _, _, rfl, ht, _, rfl, ?_⟩
    rcases q with ⟨no, q⟩ | ⟨n, rfl, n1, n64, q⟩
    · exact iteB1 (by rw [no]; rfl) q
    · refine iteB0 (by simp [inB, n1, n64]) ⟨_, rfl, _, rfl, x, _, dx, _, rfl, hx, T.L_Halves, T.n_Halves_tokens, by decide, ?_⟩
      exact q _ But.set ⟨dx, upd_same⟩
theorem sc_Halves_at_first : FnScope ["self"] ["self"] (defScope s_Halves_at_first) := ⟨rfl, rfl, rfl, by decide +kernel, rfl, by decide +kernel, by decide +kernel⟩
theorem ok_Halves_at_first (T : Tx K mg a t_MOST_TOKENS) : FnOk P w K mg base CX0 1 a.a_Halves_at_first a.d_Halves_at_first ["self"] (spFirstH a.c_Halves) := by
  refine T.F_Halves_at_first.ok sc_Halves_at_first (fun vs H Q E h => ?_) (fun cdv A outer s H vs Q E hr h => ?_)
  · obtain ⟨_, _, rfl, _⟩ := h; rfl
  · have nd := sc_Halves_at_first.nd
    have hu := hr.units
    obtain ⟨x, n, rfl, ⟨dx, hx⟩, q⟩ := h
    refine ⟨_, (@bl_out _ _ _ (@bl_1 _ _ _ (@ps_ret _ _ _ _ (pe_fld (pv 0) rfl)))), ?_⟩
    exact ⟨_, rfl, x, _, dx, _, _, rfl, hx, T.L_Halves, T.n_Halves_tokens, rfl, q⟩
theorem sc_Halves_share : FnScope ["self", "letter", "giver", "other", "tokens"] ["self", "letter", "giver", "other", "tokens"] (defScope s_Halves_share) := ⟨rfl, rfl, rfl, by decide +kernel, rfl, by decide +kernel, by decide +kernel⟩
theorem ok_Halves_share (T : Tx K mg a t_MOST_TOKENS) : FnOk P w K mg base CX0 1 a.a_Halves_share a.d_Halves_share ["self", "letter", "giver", "other", "tokens"] (spShareH) := by
  refine T.F_Halves_share.ok sc_Halves_share (fun vs H Q E h => ?_) (fun cdv A outer s H vs Q E hr h => ?_)
  · obtain ⟨_, _, _, _, _, _, _, _, _, rfl, _⟩ := h; rfl
  · have nd := sc_Halves_share.nd
    have hu := hr.units
    obtain ⟨x, lt, g, o, tok, s0, a0, w0, z0, rfl, hl, t0, t64, q⟩ := h
    refine ⟨_, (@bl_out _ _ _ (@bl_c _ _ _ _ _ _ (@ps_if _ _ _ _ _ _ _ _ (@pt_cmpR _ _ _ _ _ _ _ _ op_eq (pv 3) (@pe_ix _ _ _ _ _ _ _ (ix_tup' rfl) (pv 1) pe_int (fun _ _ => rfl)) (nomark _)) (@bl_out _ _ _ (@bl_1 _ _ _ (@ps_ret _ _ _ _ pe_int))) pss_nil) (@bl_1 _ _ _ (@ps_ret _ _ _ _ (@pe_ifExp _ _ _ _ _ _ _ _ (@pt_cmpR _ _ _ _ _ _ _ _ op_ge (pv 4) pe_int (nomark _)) (@pe_op _ _ _ _ _ _ _ _ op_fdivB (pv 4) pe_int) pe_non))))), ?_⟩
    refine ⟨_, rfl, _, rfl, lt, _, _, _, rfl, rfl, SqT.of hl, rfl, rfl, _, rfl, ?_⟩
    unfold halfV at q
    by_cases c : o = w0
    · rw [if_pos c] at q
      exact iteB1 (by rw [c]; simp) q
    · rw [if_neg c] at q
      refine iteB0 (by simp [c]) ⟨_, rfl, _, _, rfl, rfl, _, rfl, iteD (fun c2 => ?_) (fun c2 => ?_)⟩
      · rw [if_pos c2] at q
        exact ⟨_, rfl, _, _, rfl, rfl, ⟨by decide, by decide⟩, q⟩
      · rw [if_neg c2] at q
        exact q
theorem sc__law_is : FnScope ["_law_found", "_law_due"] ["_law_found", "_law_due"] (defScope s__law_is) := ⟨rfl, rfl, rfl, by decide +kernel, rfl, by decide +kernel, by decide +kernel⟩
theorem ok__law_is (T : Tx K mg a t_MOST_TOKENS) : FnOk P w K mg base CX0 2 a.a__law_is a.d__law_is ["_law_found", "_law_due"] (spIs) := by
  have G__law_whole := @ok__law_whole P w _ _ base _ _ T
  refine T.F__law_is.ok sc__law_is (fun vs H Q E h => ?_) (fun cdv A outer s H vs Q E hr h => ?_)
  · obtain ⟨_, rfl, _⟩ := h; rfl
  · have nd := sc__law_is.nd
    have hu := hr.units
    obtain ⟨x, rfl, hx, q⟩ := h
    refine ⟨_, (@bl_out _ _ _ (@bl_c _ _ _ _ _ _ (@ps_if _ _ _ _ _ _ _ _ (@PW.pt _ _ _ (@pw_or _ _ _ _ _ _ _ (pt_cmp (@pc_isN _ _ _ _ _ (pv 1))) (@pw_or1 _ _ _ _ (pt_cmp (@pc_isN _ _ _ _ _ (pv 0)))))) (@bl_out _ _ _ (@bl_1 _ _ _ (@ps_ret _ _ _ _ (@pe_and _ _ _ _ _ _ _ (pe_cmp (@pc_isN _ _ _ _ _ (pv 1))) (@pe_one _ _ _ _ _ (pe_cmp (@pc_isN _ _ _ _ _ (pv 0)))))))) pss_nil) (@bl_1 _ _ _ (@ps_ret _ _ _ _ (@pe_and _ _ _ _ _ _ _ (pe_call G__law_whole (hr.mono (by decide)) rfl T.m__law_whole T.k__law_whole T.i__law_whole .nil pass0 (@pa_out _ _ _ (@pa_c _ _ _ _ _ (pv 0) pa_n rfl))) (@pe_one _ _ _ _ _ (@pe_cmpR _ _ _ _ _ _ _ _ op_eq (pv 0) (pv 1) (nomark _)))))))), ?_⟩
    rcases hx with rfl | ⟨i, rfl⟩
    · exact ⟨_, rfl, _, rfl, iteB1 rfl (iteB1 rfl ⟨_, rfl, _, rfl, iteB1 rfl ⟨_, rfl, q⟩⟩)⟩
    · refine ⟨_, rfl, _, rfl, iteB0 rfl ⟨_, rfl, _, rfl, iteB0 rfl ?_⟩⟩
      refine ⟨_, rfl, _, "int", rfl, rfl, _, rfl, iteB1 rfl ⟨_, rfl, _, rfl, rfl, ?_⟩⟩
      rw [decide_eq_true rfl]
      exact q
theorem sc__law_thing_here : FnScope ["_law_purse_here", "_law_way"] ["_law_purse_here"] (defScope s__law_thing_here) := ⟨rfl, rfl, rfl, by decide +kernel, rfl, by decide +kernel, by decide +kernel⟩
theorem ok__law_thing_here (T : Tx K mg a t_MOST_TOKENS) : FnOk P w K mg base CX0 2 a.a__law_thing_here a.d__law_thing_here ["_law_purse_here"] (spThing51) := by
  have G__law_take := @ok__law_take P w _ _ base _ _ T
  refine T.F__law_thing_here.ok sc__law_thing_here (fun vs H Q E h => ?_) (fun cdv A outer s H vs Q E hr h => ?_)
  · obtain ⟨_, rfl, _⟩ := h; rfl
  · have nd := sc__law_thing_here.nd
    have hu := hr.units
    obtain ⟨p, rfl, pu, q⟩ := h
    refine ⟨_, (@bl_out _ _ _ (@bl_c _ _ _ _ _ _ (ps_set (i := 1) nd rfl (by first | exact Or.inl rfl | exact Or.inr rfl) (pe_call G__law_take (hr.mono (by decide)) rfl T.m__law_take T.k__law_take T.i__law_take .nil pass0 (@pa_out _ _ _ (@pa_c _ _ _ _ _ (pv 0) (@pa_c _ _ _ _ _ pe_int pa_n rfl) rfl)))) (@bl_c _ _ _ _ _ _ (@ps_if _ _ _ _ _ _ _ _ (@pt_cmpR _ _ _ _ _ _ _ _ op_lt (pv 1) pe_int (nomark _)) (@bl_out _ _ _ (@bl_1 _ _ _ (@ps_ret _ _ _ _ (@pe_op _ _ _ _ _ _ _ _ op_add pe_int (pe_call G__law_take (hr.mono (by decide)) rfl T.m__law_take T.k__law_take T.i__law_take .nil pass0 (@pa_out _ _ _ (@pa_c _ _ _ _ _ (pv 0) (@pa_c _ _ _ _ _ pe_int pa_n rfl) rfl))))))) pss_nil) (@bl_c _ _ _ _ _ _ (@ps_if _ _ _ _ _ _ _ _ (@pt_cmpR _ _ _ _ _ _ _ _ op_eq (pv 1) pe_int (nomark _)) (@bl_out _ _ _ (@bl_1 _ _ _ (@ps_ret _ _ _ _ (@pe_ix _ _ _ _ _ _ _ (ix_list' rfl) (@pe_lst _ _ _ _ (@pa_out _ _ _ (@pa_c _ _ _ _ _ (@pe_un _ _ _ _ _ _ un_neg pe_int) (@pa_c _ _ _ _ _ pe_int (@pa_c _ _ _ _ _ pe_int (@pa_c _ _ _ _ _ pe_int (@pa_c _ _ _ _ _ pe_int (@pa_c _ _ _ _ _ pe_int (@pa_c _ _ _ _ _ pe_int (@pa_c _ _ _ _ _ pe_int pa_n rfl) rfl) rfl) rfl) rfl) rfl) rfl) rfl))) (pe_call G__law_take (hr.mono (by decide)) rfl T.m__law_take T.k__law_take T.i__law_take .nil pass0 (@pa_out _ _ _ (@pa_c _ _ _ _ _ (pv 0) (@pa_c _ _ _ _ _ pe_int pa_n rfl) rfl))) (fun _ _ => rfl))))) pss_nil) (@bl_c _ _ _ _ _ _ (@ps_if _ _ _ _ _ _ _ _ (@pt_cmpR _ _ _ _ _ _ _ _ op_eq (pv 1) pe_int (nomark _)) (@bl_out _ _ _ (@bl_1 _ _ _ (@ps_ret _ _ _ _ (@pe_op _ _ _ _ _ _ _ _ op_sub (pe_call G__law_take (hr.mono (by decide)) rfl T.m__law_take T.k__law_take T.i__law_take .nil pass0 (@pa_out _ _ _ (@pa_c _ _ _ _ _ (pv 0) (@pa_c _ _ _ _ _ (@pe_op _ _ _ _ _ _ _ _ op_pow pe_int pe_int) pa_n rfl) rfl))) (@pe_op _ _ _ _ _ _ _ _ op_mul pe_int (@pe_op _ _ _ _ _ _ _ _ op_pow pe_int pe_int)))))) pss_nil) (@bl_1 _ _ _ (@ps_ret _ _ _ _ (@pe_ix _ _ _ _ _ _ _ (ix_list' rfl) (@pe_lst _ _ _ _ (@pa_out _ _ _ (@pa_c _ _ _ _ _ pe_bl (@pa_c _ _ _ _ _ pe_bl (@pa_c _ _ _ _ _ pe_non (@pa_c _ _ _ _ _ pe_str (@pa_c _ _ _ _ _ pe_str (@pa_c _ _ _ _ _ (@pe_lst _ _ _ _ (@pa_out _ _ _ (@pa_c _ _ _ _ _ pe_int pa_n rfl))) (@pa_c _ _ _ _ _ (@pe_tup _ _ _ _ _ (@pa_out _ _ _ (@pa_c _ _ _ _ _ pe_int pa_n rfl))) (@pa_c _ _ _ _ _ (@pe_lst _ _ _ _ pa_nil) (@pa_c _ _ _ _ _ pe_dnewK (@pa_c _ _ _ _ _ (pe_disp (pps_cons pe_int pe_int pps_nil) rfl rfl (by intro h; cases h) (by decide)) pa_n rfl) rfl) rfl) rfl) rfl) rfl) rfl) rfl) rfl) rfl))) (pe_call G__law_take (hr.mono (by decide)) rfl T.m__law_take T.k__law_take T.i__law_take .nil pass0 (@pa_out _ _ _ (@pa_c _ _ _ _ _ (pv 0) (@pa_c _ _ _ _ _ pe_int pa_n rfl) rfl))) (fun _ _ => rfl))))))))), ?_⟩
    have line : 1002 ≤ sizeLine := by rw [sizeLine_eq]; decide
    have c30 : CPow 10 30 := ⟨by decide, by decide, by decide⟩
    have c29 : CPow 10 29 := ⟨by decide, by decide, by decide⟩
    refine ⟨_, rfl, p, 8, rfl, by decide, by decide, pu, fun d1 H1 d0 d8 g1 => ?_⟩
    have nf : ∀ l, H1 l = none → l ≠ p := fun l h e => by
      obtain ⟨x, y, z, e'⟩ := g1.2
      rw [e, e'] at h; cases h
    refine ⟨_, rfl, _, _, rfl, rfl, _, rfl, iteD (fun c => ?_) (fun c => ?_)⟩
    · exact ⟨_, rfl, p, 64, rfl, by decide, by decide, g1.2, fun d2 H2 e0 e64 g2 => ⟨_, _, rfl, rfl, q _ "int" _ (g1.trans g2) rfl (by intro z; cases z)⟩⟩
    refine ⟨_, rfl, rfl, _, rfl, iteB (fun c4 => ?_) (fun c4 => ?_)⟩
    · refine ⟨_, rfl, by show 8 ≤ _; omega, fun lq hlq => ?_⟩
      have G := g1.new (o := HO.lst [V.int (-1), V.int 0, V.int 1, V.int 2, V.int 63, V.int 64, V.int 65, V.int 66]) hlq
      refine ⟨_, rfl, p, 8, rfl, by decide, by decide, G.2, fun d2 H2 e0 e8 g2 => ?_⟩
      obtain ⟨v, av, mv⟩ := atI_ex (xs := [V.int (-1), V.int 0, V.int 1, V.int 2, V.int 63, V.int 64, V.int 65, V.int 66]) (i := d2) e0 (by show d2 < 8; omega)
      refine ⟨lq, _, _, _, rfl, rfl, SqL.of (g2.1 _ _ (nf _ hlq) upd_same), av, ?_⟩
      obtain ⟨z, rfl⟩ : ∃ z, v = V.int z := by
        simp only [List.mem_cons, List.not_mem_nil, or_false] at mv
        rcases mv with rfl | rfl | rfl | rfl | rfl | rfl | rfl | rfl <;> exact ⟨_, rfl⟩
      exact q _ "int" _ (G.trans g2) rfl (by intro z; cases z)
    refine ⟨_, rfl, rfl, _, rfl, iteB (fun c5 => ?_) (fun c5 => ?_)⟩
    · refine ⟨_, rfl, _, _, rfl, rfl, c30, p, _, rfl, by decide, by decide, g1.2, fun d2 H2 e0 e64 g2 => ?_⟩
      exact ⟨_, _, rfl, rfl, c29, _, _, rfl, rfl, .inl ⟨by decide, by decide⟩, _, _, rfl, rfl, q _ "int" _ (g1.trans g2) rfl (by intro z; cases z)⟩
    refine ⟨by show 1 ≤ _; omega, fun l5 hl5 => ?_⟩
    have s5 := same_new (o := HO.lst [V.int 2]) hl5
    have k5 : upd H1 l5 (HO.lst [V.int 2]) l5 = some (.lst [V.int 2]) := upd_same
    generalize upd H1 l5 (HO.lst [V.int 2]) = A5 at s5 k5 ⊢
    refine ⟨by show 1 ≤ _; omega, fun l6 hl6 => ?_⟩
    have n6 := s5.free hl6
    have s6 := s5.trans (same_new (o := HO.tup [V.int 2]) hl6)
    replace k5 := same_new (o := HO.tup [V.int 2]) hl6 _ _ k5
    have k6 : upd A5 l6 (HO.tup [V.int 2]) l6 = some (.tup [V.int 2]) := upd_same
    generalize upd A5 l6 (HO.tup [V.int 2]) = A6 at s6 k5 k6 ⊢
    refine ⟨by show 0 ≤ _; omega, fun l7 hl7 => ?_⟩
    have n7 := s6.free hl7
    have s7 := s6.trans (same_new (o := HO.lst []) hl7)
    replace k5 := same_new (o := HO.lst []) hl7 _ _ k5
    replace k6 := same_new (o := HO.lst []) hl7 _ _ k6
    have k7 : upd A6 l7 (HO.lst []) l7 = some (.lst []) := upd_same
    generalize upd A6 l7 (HO.lst []) = A7 at s7 k5 k6 k7 ⊢
    refine fun l8 hl8 => ?_
    have n8 := s7.free hl8
    have s8 := s7.trans (same_new (o := HO.dK []) hl8)
    replace k5 := same_new (o := HO.dK []) hl8 _ _ k5
    replace k6 := same_new (o := HO.dK []) hl8 _ _ k6
    replace k7 := same_new (o := HO.dK []) hl8 _ _ k7
    have k8 : upd A7 l8 (HO.dK []) l8 = some (.dK []) := upd_same
    generalize upd A7 l8 (HO.dK []) = A8 at s8 k5 k6 k7 k8 ⊢
    refine fun l9 hl9 => ⟨upd_same, [(.inl 2, V.int 2)], rfl, by decide, ?_⟩
    have n9 := s8.free hl9
    have s89 := same_twice (o1 := HO.dK []) (o2 := HO.dK (mergeK [] [(.inl 2, V.int 2)])) hl9
    have s9 := s8.trans s89
    replace k5 := s89 _ _ k5
    replace k6 := s89 _ _ k6
    replace k7 := s89 _ _ k7
    replace k8 := s89 _ _ k8
    have k9 : upd (upd A8 l9 (HO.dK [])) l9 (HO.dK (mergeK [] [(.inl 2, V.int 2)])) l9 = some (.dK (mergeK [] [(.inl 2, V.int 2)])) := upd_same
    generalize upd (upd A8 l9 (HO.dK [])) l9 (HO.dK (mergeK [] [(.inl 2, V.int 2)])) = A9 at s9 k5 k6 k7 k8 k9 ⊢
    refine ⟨by show 10 ≤ _; omega, fun lq hlq => ?_⟩
    have nq := s9.free hlq
    have sq := same_new (o := HO.lst [V.bl true, V.bl false, V.non, V.str (Str.ofString "2"), V.str (Str.ofString ""), V.ref l5, V.ref l6, V.ref l7, V.ref l8, V.ref l9]) hlq
    have G := g1.same (s9.trans sq)
    refine ⟨_, rfl, p, 10, rfl, by decide, by decide, G.2, fun d2 H2 e0 e10 g2 => ?_⟩
    obtain ⟨v, av, mv⟩ := atI_ex (xs := [V.bl true, V.bl false, V.non, V.str (Str.ofString "2"), V.str (Str.ofString ""), V.ref l5, V.ref l6, V.ref l7, V.ref l8, V.ref l9]) (i := d2) e0 (by show d2 < 10; omega)
    refine ⟨lq, _, _, _, rfl, rfl, SqL.of (g2.1 _ _ (nf _ nq) upd_same), av, ?_⟩
    have G2 := G.trans g2
    simp only [List.mem_cons, List.not_mem_nil, or_false] at mv
    rcases mv with rfl | rfl | rfl | rfl | rfl | rfl | rfl | rfl | rfl | rfl
    · exact q _ "bool" _ G2 rfl (by intro z; cases z)
    · exact q _ "bool" _ G2 rfl (by intro z; cases z)
    · exact q _ "NoneType" _ G2 rfl (by intro z; cases z)
    · exact q _ "str" _ G2 rfl (by intro z; cases z)
    · exact q _ "str" _ G2 rfl (by intro z; cases z)
    · exact q _ "list" _ G2 (tyS_lst (g2.1 _ _ (nf _ hl5) (sq _ _ k5))) (fun z => nf _ hl5 (V.ref.inj z))
    · exact q _ "tuple" _ G2 (tyS_tup (g2.1 _ _ (nf _ n6) (sq _ _ k6))) (fun z => nf _ n6 (V.ref.inj z))
    · exact q _ "list" _ G2 (tyS_lst (g2.1 _ _ (nf _ n7) (sq _ _ k7))) (fun z => nf _ n7 (V.ref.inj z))
    · exact q _ "dict" _ G2 (tyS_dct (g2.1 _ _ (nf _ n8) (sq _ _ k8))) (fun z => nf _ n8 (V.ref.inj z))
    · exact q _ "dict" _ G2 (tyS_dct (g2.1 _ _ (nf _ n9) (sq _ _ k9))) (fun z => nf _ n9 (V.ref.inj z))
theorem sc__law_refused : FnScope ["_law_thing_here_here", "_law_caught", "e"] ["_law_thing_here_here"] (defScope s__law_refused) := ⟨rfl, rfl, rfl, by decide +kernel, rfl, by decide +kernel, by decide +kernel⟩
theorem ok__law_refused (T : Tx K mg a t_MOST_TOKENS) : FnOk P w K mg base CX0 5 a.a__law_refused a.d__law_refused ["_law_thing_here_here"] (spRef51) := by
  have G_Halves___init__ := @ok_Halves___init__ P w _ _ base _ _ T
  refine T.F__law_refused.ok sc__law_refused (fun vs H Q E h => ?_) (fun cdv A outer s H vs Q E hr h => ?_)
  · obtain ⟨_, _, rfl, _⟩ := h; rfl
  · have nd := sc__law_refused.nd
    have hu := hr.units
    obtain ⟨v, t, rfl, ht, no, q⟩ := h
    refine ⟨_, (@bl_out _ _ _ (@bl_c _ _ _ _ _ _ (ps_set (i := 1) nd rfl (by first | exact Or.inl rfl | exact Or.inr rfl) pe_non) (@bl_c _ _ _ _ _ _ (ps_tryAs (i := 2) rfl (psx_make T.Y_Halves G_Halves___init__ (hr.mono (by decide)) rfl T.m_Halves T.i_Halves___init__ .nil (@pa_out _ _ _ (@pa_c _ _ _ _ _ (pv 0) pa_n rfl))) rfl rfl rfl T.m_MeetError nd rfl rfl (fun _ => (@bl_out _ _ _ (@bl_1 _ _ _ (ps_set (i := 1) nd rfl (by first | exact Or.inl rfl | exact Or.inr rfl) (pv 2)))))) (@bl_c _ _ _ _ _ _ (@ps_if _ _ _ _ _ _ _ _ (pt_val (pe_callB (call_isXT rfl) (by rfl) T.b_isinstance PyProof.Rows.boot_isinstance (@pa_out _ _ _ (@pa_c _ _ _ _ _ (pv 1) (@pa_c _ _ _ _ _ (@pe_tup _ _ _ _ _ (@pa_out _ _ _ (@pa_c _ _ _ _ _ (pe_glob (v := V.ref a.c_NoBook) (by rfl) T.m_NoBook rfl) (@pa_c _ _ _ _ _ (pe_glob (v := V.ref a.c_NoMeeting) (by rfl) T.m_NoMeeting rfl) (@pa_c _ _ _ _ _ (pe_glob (v := V.ref a.c_NoDeed) (by rfl) T.m_NoDeed rfl) (@pa_c _ _ _ _ _ (pe_glob (v := V.ref a.c_NoLetter) (by rfl) T.m_NoLetter rfl) (@pa_c _ _ _ _ _ (pe_glob (v := V.ref a.c_NoWalker) (by rfl) T.m_NoWalker rfl) (@pa_c _ _ _ _ _ (pe_glob (v := V.ref a.c_NotThere) (by rfl) T.m_NotThere rfl) (@pa_c _ _ _ _ _ (pe_glob (v := V.ref a.c_HasIt) (by rfl) T.m_HasIt rfl) (@pa_c _ _ _ _ _ (pe_glob (v := V.ref a.c_NoPass) (by rfl) T.m_NoPass rfl) (@pa_c _ _ _ _ _ (pe_glob (v := V.ref a.c_NoRoom) (by rfl) T.m_NoRoom rfl) pa_n rfl) rfl) rfl) rfl) rfl) rfl) rfl) rfl) rfl))) pa_n rfl) rfl)))) (@bl_out _ _ _ (@bl_1 _ _ _ (@ps_ret _ _ _ _ pe_bl))) pss_nil) (@bl_c _ _ _ _ _ _ (@ps_if _ _ _ _ _ _ _ _ (pt_val (pe_callB (call_isXT rfl) (by rfl) T.b_isinstance PyProof.Rows.boot_isinstance (@pa_out _ _ _ (@pa_c _ _ _ _ _ (pv 1) (@pa_c _ _ _ _ _ (@pe_tup _ _ _ _ _ (@pa_out _ _ _ (@pa_c _ _ _ _ _ (pe_glob (v := V.ref a.c_TooMany) (by rfl) T.m_TooMany rfl) (@pa_c _ _ _ _ _ (pe_glob (v := V.ref a.c_NoDay) (by rfl) T.m_NoDay rfl) (@pa_c _ _ _ _ _ (pe_glob (v := V.ref a.c_NoClaim) (by rfl) T.m_NoClaim rfl) (@pa_c _ _ _ _ _ (pe_glob (v := V.ref a.c_NoText) (by rfl) T.m_NoText rfl) (@pa_c _ _ _ _ _ (pe_glob (v := V.ref a.c_NoRow) (by rfl) T.m_NoRow rfl) (@pa_c _ _ _ _ _ (pe_glob (v := V.ref a.c_NoName) (by rfl) T.m_NoName rfl) (@pa_c _ _ _ _ _ (pe_glob (v := V.ref a.c_Twice) (by rfl) T.m_Twice rfl) pa_n rfl) rfl) rfl) rfl) rfl) rfl) rfl))) pa_n rfl) rfl)))) (@bl_out _ _ _ (@bl_1 _ _ _ (@ps_ret _ _ _ _ pe_bl))) pss_nil) (@bl_1 _ _ _ (@ps_ret _ _ _ _ (@pe_and _ _ _ _ _ _ _ (pe_callB (call_isX rfl) (by rfl) T.b_isinstance PyProof.Rows.boot_isinstance (@pa_out _ _ _ (@pa_c _ _ _ _ _ (pv 1) (@pa_c _ _ _ _ _ (pe_glob (v := V.ref a.c_NoRule) (by rfl) T.m_NoRule rfl) pa_n rfl) rfl))) (@pe_one _ _ _ _ _ (pe_callB (call_isX rfl) (by rfl) T.b_isinstance PyProof.Rows.boot_isinstance (@pa_out _ _ _ (@pa_c _ _ _ _ _ (pv 1) (@pa_c _ _ _ _ _ (pe_bltn (v := V.ty "ValueError") rfl T.b_ValueError PyProof.Rows.Boot.«ValueError» rfl) pa_n rfl) rfl)))))))))))), ?_⟩
    have line : 1002 ≤ sizeLine := by rw [sizeLine_eq]; decide
    refine ⟨_, rfl, fun x dx nx ndx nex => ⟨x, dx, v, t, rfl, upd_same, tyS_same (same_two nx ndx nex) ht, .inl ⟨no, T.f_em, _, rfl, fun e he => ?_⟩⟩⟩
    have s1 : Same H (upd (upd H dx (.own x)) x (.ins a.c_Halves dx [])) := same_two nx ndx nex
    have s2 := s1.trans (same_new (o := excO e a.c_NoRule) he)
    have he2 : upd (upd (upd H dx (.own x)) x (.ins a.c_Halves dx [])) e (excO e a.c_NoRule) e = some (excO e a.c_NoRule) := upd_same
    generalize upd (upd (upd H dx (.own x)) x (.ins a.c_Halves dx [])) e (excO e a.c_NoRule) = H2 at *
    refine ⟨_, rfl, ?_⟩
    refine ⟨_, rfl, by show 9 ≤ _; omega, fun t1 ht1 => ⟨e, _, t1, _, false, rfl, same_new ht1 _ _ he2, T.x_NoRule, SqT.of upd_same, rfl, T.f_ka, _, rfl, iteB0 rfl ?_⟩⟩
    have s3 := same_new (o := HO.tup [V.ref a.c_NoBook, V.ref a.c_NoMeeting, V.ref a.c_NoDeed, V.ref a.c_NoLetter, V.ref a.c_NoWalker, V.ref a.c_NotThere, V.ref a.c_HasIt, V.ref a.c_NoPass, V.ref a.c_NoRoom]) ht1
    generalize upd H2 t1 (HO.tup [V.ref a.c_NoBook, V.ref a.c_NoMeeting, V.ref a.c_NoDeed, V.ref a.c_NoLetter, V.ref a.c_NoWalker, V.ref a.c_NotThere, V.ref a.c_HasIt, V.ref a.c_NoPass, V.ref a.c_NoRoom]) = H3 at s3 ⊢
    have he3 := s3 _ _ he2
    refine ⟨_, rfl, by show 7 ≤ _; omega, fun t2 ht2 => ⟨e, _, t2, _, false, rfl, same_new ht2 _ _ he3, T.x_NoRule, SqT.of upd_same, rfl, T.f_kb, _, rfl, iteB0 rfl ?_⟩⟩
    have he4 := same_new (o := HO.tup [V.ref a.c_TooMany, V.ref a.c_NoDay, V.ref a.c_NoClaim, V.ref a.c_NoText, V.ref a.c_NoRow, V.ref a.c_NoName, V.ref a.c_Twice]) ht2 _ _ he3
    refine ⟨_, rfl, e, _, _, true, rfl, he4, T.x_NoRule, rfl, inv_self, _, rfl, iteB1 rfl ⟨_, rfl, e, _, _, true, rfl, he4, T.x_NoRule, rfl, T.f_ve, ?_⟩⟩
    exact q _ ((s2.trans s3).trans (same_new ht2))
theorem sc__law_shares : FnScope ["_law_rule_here", "_law_letter_here", "_law_giver", "_law_taker", "_law_tokens", "_law_due"] ["_law_rule_here", "_law_letter_here", "_law_giver", "_law_taker", "_law_tokens"] (defScope s__law_shares) := ⟨rfl, rfl, rfl, by decide +kernel, rfl, by decide +kernel, by decide +kernel⟩
theorem ok__law_shares (T : Tx K mg a t_MOST_TOKENS) : FnOk P w K mg base CX0 3 a.a__law_shares a.d__law_shares ["_law_rule_here", "_law_letter_here", "_law_giver", "_law_taker", "_law_tokens"] (spShares a.c_Halves) := by
  have G_AllMet___init__ := @ok_AllMet___init__ P w _ _ base _ _ T
  have G_AllMet_share := @ok_AllMet_share P w _ _ base _ _ T
  have G_Halves_share := @ok_Halves_share P w _ _ base _ _ T
  have G__law_is := @ok__law_is P w _ _ base _ _ T
  refine T.F__law_shares.ok sc__law_shares (fun vs H Q E h => ?_) (fun cdv A outer s H vs Q E hr h => ?_)
  · obtain ⟨_, _, _, _, _, _, _, _, _, _, rfl, _⟩ := h; rfl
  · have nd := sc__law_shares.nd
    have hu := hr.units
    obtain ⟨x, n, lt, g, o, tok, s0, a0, w0, z0, rfl, hx, hl, t0, t64, q⟩ := h
    refine ⟨_, (@bl_out _ _ _ (@bl_c _ _ _ _ _ _ (ps_set (i := 5) nd rfl (by first | exact Or.inl rfl | exact Or.inr rfl) pe_int) (@bl_c _ _ _ _ _ _ (@ps_if _ _ _ _ _ _ _ _ (@pt_cmpR _ _ _ _ _ _ _ _ op_ne (pv 3) (@pe_ix _ _ _ _ _ _ _ (ix_tup' rfl) (pv 1) pe_int (fun _ _ => rfl)) (nomark _)) (@bl_out _ _ _ (@bl_1 _ _ _ (ps_set (i := 5) nd rfl (by first | exact Or.inl rfl | exact Or.inr rfl) (@pe_ix _ _ _ _ _ _ _ (ix_list' rfl) (@pe_lst _ _ _ _ (@pa_out _ _ _ (@pa_c _ _ _ _ _ pe_non (@pa_c _ _ _ _ _ (@pe_op _ _ _ _ _ _ _ _ op_fdivB (pv 4) pe_int) pa_n rfl) rfl))) (pe_callTy (call_int1) (by rfl) T.b_int PyProof.Rows.boot_int (@pa_out _ _ _ (@pa_c _ _ _ _ _ (@pe_cmpR _ _ _ _ _ _ _ _ op_gt (pv 4) pe_int (nomark _)) pa_n rfl))) (fun _ _ => rfl))))) pss_nil) (@bl_c _ _ _ _ _ _ (@ps_if _ _ _ _ _ _ _ _ (@pt_not _ _ _ _ (pt_val (pe_call G__law_is (hr.mono (by decide)) rfl T.m__law_is T.k__law_is T.i__law_is .nil pass0 (@pa_out _ _ _ (@pa_c _ _ _ _ _ (pe_meth (pv 0) T.L_Halves T.M_Halves_share G_Halves_share (hr.mono (by decide)) T.i_Halves_share .nil pass0 (@pa_out _ _ _ (@pa_c _ _ _ _ _ (pv 1) (@pa_c _ _ _ _ _ (pv 2) (@pa_c _ _ _ _ _ (pv 3) (@pa_c _ _ _ _ _ (pv 4) pa_n rfl) rfl) rfl) rfl))) (@pa_c _ _ _ _ _ (pv 5) pa_n rfl) rfl))))) (@bl_out _ _ _ (@bl_1 _ _ _ (@ps_ret _ _ _ _ pe_bl))) pss_nil) (@bl_1 _ _ _ (@ps_ret _ _ _ _ (pe_call G__law_is (hr.mono (by decide)) rfl T.m__law_is T.k__law_is T.i__law_is .nil pass0 (@pa_out _ _ _ (@pa_c _ _ _ _ _ (pe_meth (pe_make0 T.Y_AllMet G_AllMet___init__ (hr.mono (by decide)) rfl T.m_AllMet T.i_AllMet___init__ .nil pass0) T.L_AllMet T.M_AllMet_share G_AllMet_share (hr.mono (by decide)) T.i_AllMet_share .nil pass0 (@pa_out _ _ _ (@pa_c _ _ _ _ _ (pv 1) (@pa_c _ _ _ _ _ (pv 2) (@pa_c _ _ _ _ _ (pv 3) (@pa_c _ _ _ _ _ pe_int pa_n rfl) rfl) rfl) rfl))) (@pa_c _ _ _ _ _ pe_int pa_n rfl) rfl))))))))), ?_⟩
    have line : 1002 ≤ sizeLine := by rw [sizeLine_eq]; decide
    obtain ⟨dx, hx⟩ := hx
    refine ⟨_, rfl, _, rfl, lt, _, _, _, rfl, rfl, SqT.of hl, rfl, rfl, _, rfl, ?_⟩
    by_cases c : o = w0
    · have e0 : halfV o w0 tok = .int 0 := by unfold halfV; rw [if_pos c]
      refine iteB0 (by simp [c]) ?_
      refine ⟨_, rfl, x, dx, _, rfl, hx, rfl, _, rfl, _, rfl, _, rfl, _, rfl, V.ref x, lt, g, o, tok, s0, a0, w0, z0, rfl, hl, t0, t64, _, rfl, (V.int 0), congrArg (fun z => [z, (V.int 0)]) e0, .inr ⟨_, rfl⟩, _, rfl, iteB0 rfl ?_⟩
      refine fun y dy ny ndy ney => ⟨_, rfl, rfl, y, dy, _, rfl, upd_same, rfl, _, rfl, _, rfl, _, rfl, _, _, _, _, _, rfl, _, rfl, .inr ⟨_, rfl⟩, q _ ((Same.refl _).trans (same_two ny ndy ney))⟩
    · refine iteB1 (by simp [c]) ⟨_, rfl, _, _, rfl, rfl, ⟨by decide, by decide⟩, by show 2 ≤ _; omega, fun ll hll => ?_⟩
      have s1 := same_new (o := HO.lst [V.non, V.int (tok / 2)]) hll
      refine ⟨_, rfl, _, _, rfl, rfl, .inr ⟨decide (1 < tok), rfl, ?_⟩⟩
      by_cases c2 : 1 < tok
      · have e0 : halfV o w0 tok = .int (tok / 2) := by unfold halfV; rw [if_neg c, if_pos (by omega)]
        rw [decide_eq_true c2]
        refine ⟨ll, _, _, _, rfl, rfl, SqL.of upd_same, rfl, ?_⟩
        refine ⟨_, rfl, x, dx, _, rfl, s1 _ _ hx, rfl, _, rfl, _, rfl, _, rfl, _, rfl, V.ref x, lt, g, o, tok, s0, a0, w0, z0, rfl, s1 _ _ hl, t0, t64, _, rfl, (V.int (tok / 2)), congrArg (fun z => [z, (V.int (tok / 2))]) e0, .inr ⟨_, rfl⟩, _, rfl, iteB0 rfl ?_⟩
        refine fun y dy ny ndy ney => ⟨_, rfl, rfl, y, dy, _, rfl, upd_same, rfl, _, rfl, _, rfl, _, rfl, _, _, _, _, _, rfl, _, rfl, .inr ⟨_, rfl⟩, q _ (s1.trans (same_two ny ndy ney))⟩
      · have e0 : halfV o w0 tok = .non := by unfold halfV; rw [if_neg c, if_neg (by omega)]
        rw [decide_eq_false c2]
        refine ⟨ll, _, _, _, rfl, rfl, SqL.of upd_same, rfl, ?_⟩
        refine ⟨_, rfl, x, dx, _, rfl, s1 _ _ hx, rfl, _, rfl, _, rfl, _, rfl, _, rfl, V.ref x, lt, g, o, tok, s0, a0, w0, z0, rfl, s1 _ _ hl, t0, t64, _, rfl, V.non, congrArg (fun z => [z, V.non]) e0, .inl rfl, _, rfl, iteB0 rfl ?_⟩
        refine fun y dy ny ndy ney => ⟨_, rfl, rfl, y, dy, _, rfl, upd_same, rfl, _, rfl, _, rfl, _, rfl, _, _, _, _, _, rfl, _, rfl, .inr ⟨_, rfl⟩, q _ (s1.trans (same_two ny ndy ney))⟩
theorem sc_law : FnScope ["_law_script_here", "_law_all", "_law_at", "_law_purse_here", "_law_thing_here_here", "_law_rule_here", "_law_book_here", "_law_letter_here", "_law_walkers", "_law_giver", "_law_taker", "_law_tokens"] ["_law_script_here"] (defScope s_law) := ⟨rfl, rfl, rfl, by decide +kernel, rfl, by decide +kernel, by decide +kernel⟩
theorem ok_law (T : Tx K mg a t_MOST_TOKENS) : FnOk P w K mg base CX0 6 a.a_law a.d_law ["_law_script_here"] (spLaw K) := by
  have G__law_purse := @ok__law_purse P w _ _ base _ _ T
  have G__law_take := @ok__law_take P w _ _ base _ _ T
  have G__law_book := @ok__law_book P w _ _ base _ _ T
  have G__law_letter := @ok__law_letter P w _ _ base _ _ T
  have G__law_whole := @ok__law_whole P w _ _ base _ _ T
  have G_AllMet___init__ := @ok_AllMet___init__ P w _ _ base _ _ T
  have G_AllMet_at_first := @ok_AllMet_at_first P w _ _ base _ _ T
  have G_Halves___init__ := @ok_Halves___init__ P w _ _ base _ _ T
  have G_Halves_at_first := @ok_Halves_at_first P w _ _ base _ _ T
  have G__law_is := @ok__law_is P w _ _ base _ _ T
  have G__law_thing_here := @ok__law_thing_here P w _ _ base _ _ T
  have G__law_refused := @ok__law_refused P w _ _ base _ _ T
  have G__law_shares := @ok__law_shares P w _ _ base _ _ T
  refine T.F_law.ok sc_law (fun vs H Q E h => ?_) (fun cdv A outer s H vs Q E hr h => ?_)
  · obtain ⟨a, ns, rfl, _⟩ := h; rfl
  · have nd := sc_law.nd
    have hu := hr.units
    obtain ⟨sa, ns, rfl, hS, hlen, q⟩ := h
    refine ⟨_, (@bl_out _ _ _ (@bl_c _ _ _ _ _ _ (ps_set (i := 1) nd rfl (by first | exact Or.inl rfl | exact Or.inr rfl) (pe_make0 T.Y_AllMet G_AllMet___init__ (hr.mono (by decide)) rfl T.m_AllMet T.i_AllMet___init__ .nil pass0)) (@bl_c _ _ _ _ _ _ (@ps_if _ _ _ _ _ _ _ _ (@PW.pt _ _ _ (@pw_or _ _ _ _ _ _ _ (@pt_not _ _ _ _ (pt_val (pe_call G__law_is (hr.mono (by decide)) rfl T.m__law_is T.k__law_is T.i__law_is .nil pass0 (@pa_out _ _ _ (@pa_c _ _ _ _ _ (pe_meth0 (pv 1) T.L_AllMet T.M_AllMet_at_first G_AllMet_at_first (hr.mono (by decide)) T.i_AllMet_at_first .nil pass0) (@pa_c _ _ _ _ _ pe_int pa_n rfl) rfl))))) (@pw_or _ _ _ _ _ _ _ (@pt_not _ _ _ _ (pt_val (pe_callB (call_isO rfl) (by rfl) T.b_isinstance PyProof.Rows.boot_isinstance (@pa_out _ _ _ (@pa_c _ _ _ _ _ (pv 1) (@pa_c _ _ _ _ _ (pe_glob (v := V.ref a.c_Rule) (by rfl) T.m_Rule rfl) pa_n rfl) rfl))))) (@pw_or1 _ _ _ _ (pt_val (pe_callB (call_isOT rfl) (by rfl) T.b_isinstance PyProof.Rows.boot_isinstance (@pa_out _ _ _ (@pa_c _ _ _ _ _ (pv 1) (@pa_c _ _ _ _ _ (@pe_tup _ _ _ _ _ (@pa_out _ _ _ (@pa_c _ _ _ _ _ (pe_glob (v := V.ref a.c_Halves) (by rfl) T.m_Halves rfl) (@pa_c _ _ _ _ _ (pe_glob (v := V.ref a.c_Nearer) (by rfl) T.m_Nearer rfl) pa_n rfl) rfl))) pa_n rfl) rfl)))))))) (@bl_out _ _ _ (@bl_1 _ _ _ (@ps_ret _ _ _ _ pe_bl))) pss_nil) (@bl_c _ _ _ _ _ _ (ps_for PassesOwn.never rfl (pi_range3 rfl T.b_range (@pa_out _ _ _ (@pa_c _ _ _ _ _ pe_int (@pa_c _ _ _ _ _ (pe_callB (call_max2 rfl) (by rfl) T.b_max PyProof.Rows.boot_max (@pa_out _ _ _ (@pa_c _ _ _ _ _ pe_int (@pa_c _ _ _ _ _ (pe_callB (call_min2 rfl) (by rfl) T.b_min PyProof.Rows.boot_min (@pa_out _ _ _ (@pa_c _ _ _ _ _ (pe_callB (call_len_seq' rfl) (by rfl) T.b_len PySem.boot_len (@pa_out _ _ _ (@pa_c _ _ _ _ _ (pv 0) pa_n rfl))) (@pa_c _ _ _ _ _ pe_int pa_n rfl) rfl))) pa_n rfl) rfl))) (@pa_c _ _ _ _ _ pe_int pa_n rfl) rfl) rfl))) (pg_name (i := 2) nd rfl (by first | exact Or.inl rfl | exact Or.inr rfl)) (@bl_out _ _ _ (@bl_c _ _ _ _ _ _ (ps_set (i := 3) nd rfl (by first | exact Or.inl rfl | exact Or.inr rfl) (pe_call G__law_purse (hr.mono (by decide)) rfl T.m__law_purse T.k__law_purse T.i__law_purse .nil pass0 (@pa_out _ _ _ (@pa_c _ _ _ _ _ (pv 0) (@pa_c _ _ _ _ _ (pv 2) pa_n rfl) rfl)))) (@bl_c _ _ _ _ _ _ (ps_set (i := 4) nd rfl (by first | exact Or.inl rfl | exact Or.inr rfl) (pe_call G__law_thing_here (hr.mono (by decide)) rfl T.m__law_thing_here T.k__law_thing_here T.i__law_thing_here .nil pass0 (@pa_out _ _ _ (@pa_c _ _ _ _ _ (pv 3) pa_n rfl)))) (@bl_c _ _ _ _ _ _ (@ps_if _ _ _ _ _ _ _ _ (@PW.pt _ _ _ (@pw_or _ _ _ _ _ _ _ (@pt_not _ _ _ _ (pt_val (pe_call G__law_whole (hr.mono (by decide)) rfl T.m__law_whole T.k__law_whole T.i__law_whole .nil pass0 (@pa_out _ _ _ (@pa_c _ _ _ _ _ (pv 4) pa_n rfl))))) (@pw_or1 _ _ _ _ (@pt_not _ _ _ _ (pt_chain op_le op_le pe_int (pv 4) pe_int))))) (@bl_out _ _ _ (@bl_c _ _ _ _ _ _ (@ps_if _ _ _ _ _ _ _ _ (@pt_not _ _ _ _ (pt_val (pe_call G__law_refused (hr.mono (by decide)) rfl T.m__law_refused T.k__law_refused T.i__law_refused .nil pass0 (@pa_out _ _ _ (@pa_c _ _ _ _ _ (pv 4) pa_n rfl))))) (@bl_out _ _ _ (@bl_1 _ _ _ (@ps_ret _ _ _ _ pe_bl))) pss_nil) (@bl_1 _ _ _ (ps_set (i := 4) nd rfl (by first | exact Or.inl rfl | exact Or.inr rfl) (@pe_op _ _ _ _ _ _ _ _ op_add pe_int (pe_call G__law_take (hr.mono (by decide)) rfl T.m__law_take T.k__law_take T.i__law_take .nil pass0 (@pa_out _ _ _ (@pa_c _ _ _ _ _ (pv 3) (@pa_c _ _ _ _ _ pe_int pa_n rfl) rfl)))))))) pss_nil) (@bl_c _ _ _ _ _ _ (ps_set (i := 5) nd rfl (by first | exact Or.inl rfl | exact Or.inr rfl) (pe_make (E := E0) T.Y_Halves G_Halves___init__ (hr.mono (by decide)) rfl T.m_Halves T.i_Halves___init__ .nil passN (@pa_out _ _ _ (@pa_c _ _ _ _ _ (pv 4) pa_n rfl)))) (@bl_c _ _ _ _ _ _ (@ps_if _ _ _ _ _ _ _ _ (@PW.pt _ _ _ (@pw_or _ _ _ _ _ _ _ (@pt_not _ _ _ _ (pt_val (pe_callB (call_isO rfl) (by rfl) T.b_isinstance PyProof.Rows.boot_isinstance (@pa_out _ _ _ (@pa_c _ _ _ _ _ (pv 5) (@pa_c _ _ _ _ _ (pe_glob (v := V.ref a.c_Rule) (by rfl) T.m_Rule rfl) pa_n rfl) rfl))))) (@pw_or1 _ _ _ _ (pt_val (pe_callB (call_isOT rfl) (by rfl) T.b_isinstance PyProof.Rows.boot_isinstance (@pa_out _ _ _ (@pa_c _ _ _ _ _ (pv 5) (@pa_c _ _ _ _ _ (@pe_tup _ _ _ _ _ (@pa_out _ _ _ (@pa_c _ _ _ _ _ (pe_glob (v := V.ref a.c_AllMet) (by rfl) T.m_AllMet rfl) (@pa_c _ _ _ _ _ (pe_glob (v := V.ref a.c_Nearer) (by rfl) T.m_Nearer rfl) pa_n rfl) rfl))) pa_n rfl) rfl))))))) (@bl_out _ _ _ (@bl_1 _ _ _ (@ps_ret _ _ _ _ pe_bl))) pss_nil) (@bl_c _ _ _ _ _ _ (ps_set (i := 6) nd rfl (by first | exact Or.inl rfl | exact Or.inr rfl) (pe_call G__law_book (hr.mono (by decide)) rfl T.m__law_book T.k__law_book T.i__law_book .nil pass0 (@pa_out _ _ _ (@pa_c _ _ _ _ _ (pe_call G__law_purse (hr.mono (by decide)) rfl T.m__law_purse T.k__law_purse T.i__law_purse .nil pass0 (@pa_out _ _ _ (@pa_c _ _ _ _ _ (pv 0) (@pa_c _ _ _ _ _ (@pe_op _ _ _ _ _ _ _ _ op_add (pv 2) pe_int) pa_n rfl) rfl))) (@pa_c _ _ _ _ _ pe_int (@pa_c _ _ _ _ _ pe_int pa_n rfl) rfl) rfl)))) (@bl_c _ _ _ _ _ _ (ps_set (i := 7) nd rfl (by first | exact Or.inl rfl | exact Or.inr rfl) (pe_call G__law_letter (hr.mono (by decide)) rfl T.m__law_letter T.k__law_letter T.i__law_letter .nil pass0 (@pa_out _ _ _ (@pa_c _ _ _ _ _ (pv 3) (@pa_c _ _ _ _ _ (pv 6) pa_n rfl) rfl)))) (@bl_c _ _ _ _ _ _ (ps_set (i := 8) nd rfl (by first | exact Or.inl rfl | exact Or.inr rfl) (pe_callB (call_len_seq' rfl) (by rfl) T.b_len PySem.boot_len (@pa_out _ _ _ (@pa_c _ _ _ _ _ (@pe_ix _ _ _ _ _ _ _ (ix_tup' rfl) (pv 6) pe_int (fun _ _ => rfl)) pa_n rfl)))) (@bl_c _ _ _ _ _ _ (ps_set (i := 9) nd rfl (by first | exact Or.inl rfl | exact Or.inr rfl) (pe_call G__law_take (hr.mono (by decide)) rfl T.m__law_take T.k__law_take T.i__law_take .nil pass0 (@pa_out _ _ _ (@pa_c _ _ _ _ _ (pv 3) (@pa_c _ _ _ _ _ (pv 8) pa_n rfl) rfl)))) (@bl_c _ _ _ _ _ _ (ps_set (i := 10) nd rfl (by first | exact Or.inl rfl | exact Or.inr rfl) (@pe_op _ _ _ _ _ _ _ _ op_mod (@pe_op _ _ _ _ _ _ _ _ op_add (@pe_op _ _ _ _ _ _ _ _ op_add (pv 9) pe_int) (pe_call G__law_take (hr.mono (by decide)) rfl T.m__law_take T.k__law_take T.i__law_take .nil pass0 (@pa_out _ _ _ (@pa_c _ _ _ _ _ (pv 3) (@pa_c _ _ _ _ _ (pe_callB (call_max2 rfl) (by rfl) T.b_max PyProof.Rows.boot_max (@pa_out _ _ _ (@pa_c _ _ _ _ _ pe_int (@pa_c _ _ _ _ _ (@pe_op _ _ _ _ _ _ _ _ op_sub (pv 8) pe_int) pa_n rfl) rfl))) pa_n rfl) rfl)))) (pv 8))) (@bl_c _ _ _ _ _ _ (ps_for PassesOwn.never rfl (@pi_list' _ _ _ _ _ rfl (@pe_op _ _ _ _ _ _ _ _ op_rep (@pe_lst _ _ _ _ (@pa_out _ _ _ (@pa_c _ _ _ _ _ pe_int (@pa_c _ _ _ _ _ pe_int (@pa_c _ _ _ _ _ pe_int (@pa_c _ _ _ _ _ pe_int (@pa_c _ _ _ _ _ (pe_call G__law_take (hr.mono (by decide)) rfl T.m__law_take T.k__law_take T.i__law_take .nil pass0 (@pa_out _ _ _ (@pa_c _ _ _ _ _ (pv 3) (@pa_c _ _ _ _ _ pe_int pa_n rfl) rfl))) pa_n rfl) rfl) rfl) rfl) rfl))) (pe_callTy (call_int1) (by rfl) T.b_int PyProof.Rows.boot_int (@pa_out _ _ _ (@pa_c _ _ _ _ _ (@pe_cmpR _ _ _ _ _ _ _ _ op_gt (pv 8) pe_int (nomark _)) pa_n rfl))))) (pg_name (i := 11) nd rfl (by first | exact Or.inl rfl | exact Or.inr rfl)) (@bl_out _ _ _ (@bl_1 _ _ _ (@ps_if _ _ _ _ _ _ _ _ (@pt_not _ _ _ _ (pt_val (pe_call G__law_shares (hr.mono (by decide)) rfl T.m__law_shares T.k__law_shares T.i__law_shares .nil pass0 (@pa_out _ _ _ (@pa_c _ _ _ _ _ (pv 5) (@pa_c _ _ _ _ _ (pv 7) (@pa_c _ _ _ _ _ (pv 9) (@pa_c _ _ _ _ _ (pv 10) (@pa_c _ _ _ _ _ (pe_callB (call_min2 rfl) (by rfl) T.b_min PyProof.Rows.boot_min (@pa_out _ _ _ (@pa_c _ _ _ _ _ (pv 11) (@pa_c _ _ _ _ _ (pv 4) pa_n rfl) rfl))) pa_n rfl) rfl) rfl) rfl) rfl))))) (@bl_out _ _ _ (@bl_1 _ _ _ (@ps_ret _ _ _ _ pe_bl))) pss_nil)))) (@bl_1 _ _ _ (@ps_if _ _ _ _ _ _ _ _ (@pt_not _ _ _ _ (pt_val (pe_call G__law_is (hr.mono (by decide)) rfl T.m__law_is T.k__law_is T.i__law_is .nil pass0 (@pa_out _ _ _ (@pa_c _ _ _ _ _ (pe_meth0 (pv 5) T.L_Halves T.M_Halves_at_first G_Halves_at_first (hr.mono (by decide)) T.i_Halves_at_first .nil pass0) (@pa_c _ _ _ _ _ (pv 4) pa_n rfl) rfl))))) (@bl_out _ _ _ (@bl_1 _ _ _ (@ps_ret _ _ _ _ pe_bl))) pss_nil))))))))))))))) (@bl_1 _ _ _ (@ps_ret _ _ _ _ pe_bl)))))), ?_⟩
    have line : 1002 ≤ sizeLine := by rw [sizeLine_eq]; decide
    refine fun y dy ny ndy ney => ⟨_, rfl, rfl, ?_⟩
    have s1 : Same H (upd (upd H dy (.own y)) y (.ins a.c_AllMet dy [])) := same_two ny ndy ney
    have hy : upd (upd H dy (.own y)) y (.ins a.c_AllMet dy []) y = some (.ins a.c_AllMet dy []) := upd_same
    generalize upd (upd H dy (.own y)) y (.ins a.c_AllMet dy []) = H1 at *
    refine ⟨_, rfl, y, dy, _, rfl, hy, rfl, _, rfl, _, rfl, .inr ⟨_, rfl⟩, _, rfl, iteB0 rfl ⟨_, rfl, y, _, dy, _, _, true, rfl, hy, T.o_AllMet, rfl, T.f_ar, _, rfl, iteB0 rfl ⟨_, rfl, by show 2 ≤ _; omega, fun t ht => ⟨y, _, dy, _, t, _, false, rfl, same_new ht _ _ hy, T.o_AllMet, SqT.of upd_same, rfl, T.f_ao, _, rfl, iteB0 rfl ?_⟩⟩⟩⟩
    have s2 := s1.trans (same_new (o := HO.tup [V.ref a.c_Halves, V.ref a.c_Nearer]) ht)
    generalize upd H1 t (HO.tup [V.ref a.c_Halves, V.ref a.c_Nearer]) = H2 at s2 ⊢
    refine ⟨_, rfl, sa, _, rfl, .inl (s2.seq hS), _, _, rfl, _, _, rfl, ?_⟩
    obtain ⟨j, j21, ej⟩ : ∃ j : Nat, j < 41 ∧ (if (if 40 < (((ns.map V.int).length : Nat) : Int) then 40 else (((ns.map V.int).length : Nat) : Int)) > 1 then (if 40 < (((ns.map V.int).length : Nat) : Int) then 40 else (((ns.map V.int).length : Nat) : Int)) else 1) = (j : Int) := by
      refine ⟨(if (if 40 < (((ns.map V.int).length : Nat) : Int) then 40 else (((ns.map V.int).length : Nat) : Int)) > 1 then (if 40 < (((ns.map V.int).length : Nat) : Int) then 40 else (((ns.map V.int).length : Nat) : Int)) else 1).toNat, ?_, ?_⟩ <;> split <;> split <;> omega
    obtain ⟨u1, u2⟩ := up4 j j21
    refine ⟨_, _, _, (j + 1) / 2, rfl, by decide, PyProof.noPylong_small (by decide), by rw [ej]; exact u1, by rw [ej]; exact u2, ?_⟩
    refine for_rangeS (n := (j + 1) / 2) (fun i σ H3 => (∃ v2 v3 v4 v5 v6 v7 v8 v9 v10 v11, σ = [some (.ref sa), some (.ref y), v2, v3, v4, v5, v6, v7, v8, v9, v10, v11]) ∧ Same H H3) ⟨⟨_, _, _, _, _, _, _, _, _, _, rfl⟩, s2⟩ ?_ (fun σ H3 _ => q H3)
    rintro i σ H3 hi ⟨⟨v2, v3, v4, v5, v6, v7, v8, v9, v10, v11, rfl⟩, s3⟩
    refine ⟨_, rfl, _, rfl, sa, ns, 2 * i, by simp; omega, s3.seq hS, by omega, fun p H4 hp pu s4 => ?_⟩
    refine ⟨_, rfl, p, rfl, pu, fun x t H5 g5 ht np => ?_⟩
    refine if_bad rfl ht (fun no => ?_) (fun yes => ?_)
    · refine ⟨_, rfl, x, t, rfl, ht, no, fun H6 s6 => ⟨_, rfl, iteB0 rfl ?_⟩⟩
      refine ⟨_, rfl, p, 64, rfl, by decide, by decide, (g5.same s6).2, fun d H7 d0 d64 g7 => ⟨_, _, rfl, rfl, ?_⟩⟩
      have G7 := (g5.same s6).trans g7
      obtain ⟨n, en, n1, n64⟩ : ∃ n, n = 1 + d ∧ 1 ≤ n ∧ n ≤ 64 := ⟨_, rfl, by omega, by omega⟩
      show gName 4 (V.int (1 + d)) _ _ _
      rw [← en]
      clear en
      have s37 : Same H3 H7 := But.same hp s4 G7.1
      refine ⟨_, rfl, fun x dx nx ndx nex => ⟨x, dx, V.int n, "int", rfl, upd_same, rfl, .inr ⟨n, rfl, n1, n64, fun H8 b8 half => ⟨rfl, ?_⟩⟩⟩⟩
      have npx : x ≠ p := G7.2.ne nx
      have s78 : Same H7 H8 := But.same nx (same_new ndx) (But.trans But.set b8)
      obtain ⟨dx', hx⟩ := half
      refine ⟨_, rfl, x, _, dx', _, _, true, rfl, hx, T.o_Halves, rfl, T.f_hr, _, rfl, iteB0 rfl ⟨_, rfl, by show 2 ≤ _; omega, fun t1 ht1 => ⟨x, _, dx', _, t1, _, false, rfl, same_new ht1 _ _ hx, T.o_Halves, SqT.of upd_same, rfl, T.f_ho, _, rfl, iteB0 rfl ?_⟩⟩⟩
      have s8 := same_new (o := HO.tup [V.ref a.c_AllMet, V.ref a.c_Nearer]) ht1
      generalize upd H8 t1 (HO.tup [V.ref a.c_AllMet, V.ref a.c_Nearer]) = H9 at s8 ⊢
      replace hx := s8 _ _ hx
      have G9 := G7.same (s78.trans s8)
      have sH9 : Same H H9 := s3.trans (But.same hp s4 G9.1)
      refine ⟨_, rfl, _, rfl, _, _, rfl, rfl, sa, ns, 2 * i + 1, by simp; omega, sH9.seq hS, by omega, fun p2 HA hp2 pu2 sA => ⟨p2, 12, 9, rfl, by decide, by decide, by decide, pu2, fun b rooms tr tm ps HB gB hb r1 r12 rr gd lps => ?_⟩⟩
      have s9B : Same H9 HB := But.same hp2 sA gB.1
      have GB := G9.same s9B
      replace hx := s9B _ _ hx
      refine ⟨_, rfl, _, rfl, p, b, rooms, tr, tm, ps, rfl, hb, r1, by omega, gd, GB.2, fun lt ls la lw lz HC gC hl _ _ _ _ _ _ _ _ => ?_⟩
      have hbC := hb.tups (gC.tups GB.2)
      have GC := GB.trans gC
      replace hx := gC.1 _ _ npx hx
      refine ⟨_, rfl, b, _, _, _, rfl, rfl, SqT.of hbC.book, rfl, tr, _, rfl, .inr (SqT.of hbC.rooms), ?_⟩
      have big : ((rooms.map V.int).length : Int) < 2 ^ 200 := Int.lt_of_le_of_lt (by rw [List.length_map]; exact r12) (by decide)
      refine ⟨_, rfl, _, rfl, p, _, rfl, by rw [List.length_map]; omega, big, GC.2, fun gv HD g0 g12 gD => ?_⟩
      have GD := GC.trans gD
      replace hx := gD.1 _ _ npx hx
      replace hl := (gD.tups GC.2) _ _ hl
      refine ⟨_, rfl, _, _, rfl, rfl, _, rfl, _, rfl, _, _, rfl, rfl, _, _, rfl, p, _, rfl, by split <;> omega, by split <;> omega, GD.2, fun d2 HE e0 e1 gE => ⟨_, _, rfl, rfl, _, rfl, _, _, rfl, rfl, by rw [List.length_map]; omega, ?_⟩⟩
      have GE := GD.trans gE
      replace hx := gE.1 _ _ npx hx
      replace hl := (gE.tups GD.2) _ _ hl
      refine ⟨_, rfl, p, 65, rfl, by decide, by decide, GE.2, fun d5 HF f0 f65 gF => ⟨by show 5 ≤ _; omega, fun l5 hl5 => ?_⟩⟩
      have GF := GE.trans gF
      replace hx := gF.1 _ _ npx hx
      replace hl := (gF.tups GE.2) _ _ hl
      refine ⟨_, rfl, _, _, rfl, rfl, .inr ⟨_, rfl, l5, _, _, rfl, rfl, upd_same, by split <;> decide, by split <;> decide, by show 5 * _ ≤ _; split <;> simp <;> omega, fun lp hlp => ?_⟩⟩
      have sF := same_new (o := HO.lst [V.int 0, V.int 1, V.int 2, V.int 3, V.int d5]) hl5
      obtain ⟨k, ek⟩ : ∃ k : Nat, k = (if decide (1 < ((rooms.map V.int).length : Int)) = true then (1 : Int) else 0).toNat := ⟨_, rfl⟩
      rw [← ek]
      have ws : ∀ e ∈ (List.replicate k [V.int 0, V.int 1, V.int 2, V.int 3, V.int d5]).flatten, ∃ tk, e = V.int tk ∧ 0 ≤ tk ∧ tk ≤ 64 := fun e he => by
        obtain ⟨l, hl', hm⟩ := List.mem_flatten.mp he
        obtain ⟨_, rfl⟩ := List.mem_replicate.mp hl'
        simp only [List.mem_cons, List.not_mem_nil, or_false] at hm
        rcases hm with rfl | rfl | rfl | rfl | rfl
        · exact ⟨_, rfl, by decide, by decide⟩
        · exact ⟨_, rfl, by decide, by decide⟩
        · exact ⟨_, rfl, by decide, by decide⟩
        · exact ⟨_, rfl, by decide, by decide⟩
        · exact ⟨_, rfl, f0, by omega⟩
      generalize (List.replicate k [V.int 0, V.int 1, V.int 2, V.int 3, V.int d5]).flatten = xs at ws ⊢
      have sL := sF.trans (same_new (o := HO.lst xs) hlp)
      have kL : upd (upd HF l5 (HO.lst [V.int 0, V.int 1, V.int 2, V.int 3, V.int d5])) lp (HO.lst xs) lp = some (.lst xs) := upd_same
      generalize upd (upd HF l5 (HO.lst [V.int 0, V.int 1, V.int 2, V.int 3, V.int d5])) lp (HO.lst xs) = HL at sL kL ⊢
      replace hx := sL _ _ hx
      replace hl := sL _ _ hl
      have sHL : Same H HL := s3.trans (But.same hp s4 (GF.same sL).1)
      refine ⟨lp, rfl, ⟨_, SqL.of kL⟩, ?_⟩
      refine for_list (K := K) (a := lp) (xs := xs) (fun i σ HG => (∃ w2 w6 w11, σ = [some (.ref sa), some (.ref y), w2, some (.ref p), some (.int n), some (.ref x), w6, some (.ref lt), some (.int ((rooms.map V.int).length : Int)), some (.int gv), some (.int ((gv + 1 + d2) % ((rooms.map V.int).length : Int))), w11]) ∧ Same HL HG) ⟨⟨_, _, _, rfl⟩, Same.refl _⟩ ?_ ?_ ?_
      · rintro i2 σ HG _ ⟨_, sG⟩
        exact SqL.of (sG _ _ kL)
      · rintro i2 e σ HG he ⟨⟨w2, w6, w11, rfl⟩, sG⟩
        obtain ⟨tk, rfl, tk0, tk64⟩ := ws e (List.mem_of_getElem? he)
        exact ⟨_, rfl, _, rfl, _, rfl, _, rfl, _, rfl, _, rfl, _, _, rfl, x, n, lt, _, _, _, _, _, _, _, rfl, ⟨dx', sG _ _ hx⟩, sG _ _ hl, by split <;> omega, by split <;> omega, fun HI sI => ⟨_, rfl, iteB0 rfl ⟨⟨_, _, _, rfl⟩, sG.trans sI⟩⟩⟩
      · rintro σ HG ⟨⟨w2, w6, w11, rfl⟩, sG⟩
        exact ⟨_, rfl, x, dx', _, rfl, sG _ _ hx, rfl, x, n, rfl, ⟨dx', sG _ _ hx⟩, _, rfl, _, rfl, .inr ⟨_, rfl⟩, _, rfl, iteB0 rfl ⟨⟨_, _, _, _, _, _, _, _, _, _, rfl⟩, sHL.trans sG⟩⟩
    · obtain ⟨n, rfl, n1, n64⟩ := inB_get yes
      obtain ⟨H7, eH⟩ : ∃ H7, H7 = H5 := ⟨_, rfl⟩
      rw [← eH] at g5 ⊢
      have G7 := g5
      have s37 : Same H3 H7 := But.same hp s4 G7.1
      refine ⟨_, rfl, fun x dx nx ndx nex => ⟨x, dx, V.int n, "int", rfl, upd_same, rfl, .inr ⟨n, rfl, n1, n64, fun H8 b8 half => ⟨rfl, ?_⟩⟩⟩⟩
      have npx : x ≠ p := G7.2.ne nx
      have s78 : Same H7 H8 := But.same nx (same_new ndx) (But.trans But.set b8)
      obtain ⟨dx', hx⟩ := half
      refine ⟨_, rfl, x, _, dx', _, _, true, rfl, hx, T.o_Halves, rfl, T.f_hr, _, rfl, iteB0 rfl ⟨_, rfl, by show 2 ≤ _; omega, fun t1 ht1 => ⟨x, _, dx', _, t1, _, false, rfl, same_new ht1 _ _ hx, T.o_Halves, SqT.of upd_same, rfl, T.f_ho, _, rfl, iteB0 rfl ?_⟩⟩⟩
      have s8 := same_new (o := HO.tup [V.ref a.c_AllMet, V.ref a.c_Nearer]) ht1
      generalize upd H8 t1 (HO.tup [V.ref a.c_AllMet, V.ref a.c_Nearer]) = H9 at s8 ⊢
      replace hx := s8 _ _ hx
      have G9 := G7.same (s78.trans s8)
      have sH9 : Same H H9 := s3.trans (But.same hp s4 G9.1)
      refine ⟨_, rfl, _, rfl, _, _, rfl, rfl, sa, ns, 2 * i + 1, by simp; omega, sH9.seq hS, by omega, fun p2 HA hp2 pu2 sA => ⟨p2, 12, 9, rfl, by decide, by decide, by decide, pu2, fun b rooms tr tm ps HB gB hb r1 r12 rr gd lps => ?_⟩⟩
      have s9B : Same H9 HB := But.same hp2 sA gB.1
      have GB := G9.same s9B
      replace hx := s9B _ _ hx
      refine ⟨_, rfl, _, rfl, p, b, rooms, tr, tm, ps, rfl, hb, r1, by omega, gd, GB.2, fun lt ls la lw lz HC gC hl _ _ _ _ _ _ _ _ => ?_⟩
      have hbC := hb.tups (gC.tups GB.2)
      have GC := GB.trans gC
      replace hx := gC.1 _ _ npx hx
      refine ⟨_, rfl, b, _, _, _, rfl, rfl, SqT.of hbC.book, rfl, tr, _, rfl, .inr (SqT.of hbC.rooms), ?_⟩
      have big : ((rooms.map V.int).length : Int) < 2 ^ 200 := Int.lt_of_le_of_lt (by rw [List.length_map]; exact r12) (by decide)
      refine ⟨_, rfl, _, rfl, p, _, rfl, by rw [List.length_map]; omega, big, GC.2, fun gv HD g0 g12 gD => ?_⟩
      have GD := GC.trans gD
      replace hx := gD.1 _ _ npx hx
      replace hl := (gD.tups GC.2) _ _ hl
      refine ⟨_, rfl, _, _, rfl, rfl, _, rfl, _, rfl, _, _, rfl, rfl, _, _, rfl, p, _, rfl, by split <;> omega, by split <;> omega, GD.2, fun d2 HE e0 e1 gE => ⟨_, _, rfl, rfl, _, rfl, _, _, rfl, rfl, by rw [List.length_map]; omega, ?_⟩⟩
      have GE := GD.trans gE
      replace hx := gE.1 _ _ npx hx
      replace hl := (gE.tups GD.2) _ _ hl
      refine ⟨_, rfl, p, 65, rfl, by decide, by decide, GE.2, fun d5 HF f0 f65 gF => ⟨by show 5 ≤ _; omega, fun l5 hl5 => ?_⟩⟩
      have GF := GE.trans gF
      replace hx := gF.1 _ _ npx hx
      replace hl := (gF.tups GE.2) _ _ hl
      refine ⟨_, rfl, _, _, rfl, rfl, .inr ⟨_, rfl, l5, _, _, rfl, rfl, upd_same, by split <;> decide, by split <;> decide, by show 5 * _ ≤ _; split <;> simp <;> omega, fun lp hlp => ?_⟩⟩
      have sF := same_new (o := HO.lst [V.int 0, V.int 1, V.int 2, V.int 3, V.int d5]) hl5
      obtain ⟨k, ek⟩ : ∃ k : Nat, k = (if decide (1 < ((rooms.map V.int).length : Int)) = true then (1 : Int) else 0).toNat := ⟨_, rfl⟩
      rw [← ek]
      have ws : ∀ e ∈ (List.replicate k [V.int 0, V.int 1, V.int 2, V.int 3, V.int d5]).flatten, ∃ tk, e = V.int tk ∧ 0 ≤ tk ∧ tk ≤ 64 := fun e he => by
        obtain ⟨l, hl', hm⟩ := List.mem_flatten.mp he
        obtain ⟨_, rfl⟩ := List.mem_replicate.mp hl'
        simp only [List.mem_cons, List.not_mem_nil, or_false] at hm
        rcases hm with rfl | rfl | rfl | rfl | rfl
        · exact ⟨_, rfl, by decide, by decide⟩
        · exact ⟨_, rfl, by decide, by decide⟩
        · exact ⟨_, rfl, by decide, by decide⟩
        · exact ⟨_, rfl, by decide, by decide⟩
        · exact ⟨_, rfl, f0, by omega⟩
      generalize (List.replicate k [V.int 0, V.int 1, V.int 2, V.int 3, V.int d5]).flatten = xs at ws ⊢
      have sL := sF.trans (same_new (o := HO.lst xs) hlp)
      have kL : upd (upd HF l5 (HO.lst [V.int 0, V.int 1, V.int 2, V.int 3, V.int d5])) lp (HO.lst xs) lp = some (.lst xs) := upd_same
      generalize upd (upd HF l5 (HO.lst [V.int 0, V.int 1, V.int 2, V.int 3, V.int d5])) lp (HO.lst xs) = HL at sL kL ⊢
      replace hx := sL _ _ hx
      replace hl := sL _ _ hl
      have sHL : Same H HL := s3.trans (But.same hp s4 (GF.same sL).1)
      refine ⟨lp, rfl, ⟨_, SqL.of kL⟩, ?_⟩
      refine for_list (K := K) (a := lp) (xs := xs) (fun i σ HG => (∃ w2 w6 w11, σ = [some (.ref sa), some (.ref y), w2, some (.ref p), some (.int n), some (.ref x), w6, some (.ref lt), some (.int ((rooms.map V.int).length : Int)), some (.int gv), some (.int ((gv + 1 + d2) % ((rooms.map V.int).length : Int))), w11]) ∧ Same HL HG) ⟨⟨_, _, _, rfl⟩, Same.refl _⟩ ?_ ?_ ?_
      · rintro i2 σ HG _ ⟨_, sG⟩
        exact SqL.of (sG _ _ kL)
      · rintro i2 e σ HG he ⟨⟨w2, w6, w11, rfl⟩, sG⟩
        obtain ⟨tk, rfl, tk0, tk64⟩ := ws e (List.mem_of_getElem? he)
        exact ⟨_, rfl, _, rfl, _, rfl, _, rfl, _, rfl, _, rfl, _, _, rfl, x, n, lt, _, _, _, _, _, _, _, rfl, ⟨dx', sG _ _ hx⟩, sG _ _ hl, by split <;> omega, by split <;> omega, fun HI sI => ⟨_, rfl, iteB0 rfl ⟨⟨_, _, _, rfl⟩, sG.trans sI⟩⟩⟩
      · rintro σ HG ⟨⟨w2, w6, w11, rfl⟩, sG⟩
        exact ⟨_, rfl, x, dx', _, rfl, sG _ _ hx, rfl, x, n, rfl, ⟨dx', sG _ _ hx⟩, _, rfl, _, rfl, .inr ⟨_, rfl⟩, _, rfl, iteB0 rfl ⟨⟨_, _, _, _, _, _, _, _, _, _, rfl⟩, sHL.trans sG⟩⟩
end
theorem all_mk {l : PySem.W.OpenLaw} {w : World} {K : PySem.W.Frag} {h : Heap} {mg : Str → Option Value} {fa f__law_purse f__law_take f__law_far f__law_rooms f__law_step f__law_meetings f__law_book f__law_time f__law_letter f__law_whole f_is_whole f_is_within f_AllMet___init__ f_AllMet_at_first f_AllMet_share f_Halves___init__ f_Halves_at_first f_Halves_share f__law_is f__law_thing_here f__law_refused f__law_shares f_law c_AllMet c_Halves c_HasIt c_MeetError c_Nearer c_NoBook c_NoClaim c_NoDay c_NoDeed c_NoLetter c_NoMeeting c_NoName c_NoPass c_NoRoom c_NoRow c_NoRule c_NoText c_NoWalker c_NotThere c_Rule c_TooMany c_Twice : Addr} (X : K.In h) (G : h.Ns mainGlobals mg) (hfa : mg "law" = some (.ref fa))
    {d__law_purse d__law_take d__law_far d__law_rooms d__law_step d__law_meetings d__law_book d__law_time d__law_letter d__law_whole d_is_whole d_is_within d_AllMet___init__ d_AllMet_at_first d_AllMet_share d_Halves___init__ d_Halves_at_first d_Halves_share d__law_is d__law_thing_here d__law_refused d__law_shares d_law : FuncData} {t_MOST_TOKENS : Tok}
    (a__law_purse : PySem.W.nsIn K mainGlobals "_law_purse" = some (some (.ref f__law_purse))) (F__law_purse : Fun K "_law_purse" "_law_purse" s__law_purse f__law_purse d__law_purse)
    (a__law_take : PySem.W.nsIn K mainGlobals "_law_take" = some (some (.ref f__law_take))) (F__law_take : Fun K "_law_take" "_law_take" s__law_take f__law_take d__law_take)
    (a__law_far : PySem.W.nsIn K mainGlobals "_law_far" = some (some (.ref f__law_far))) (F__law_far : Fun K "_law_far" "_law_far" s__law_far f__law_far d__law_far)
    (a__law_rooms : PySem.W.nsIn K mainGlobals "_law_rooms" = some (some (.ref f__law_rooms))) (F__law_rooms : Fun K "_law_rooms" "_law_rooms" s__law_rooms f__law_rooms d__law_rooms)
    (a__law_step : PySem.W.nsIn K mainGlobals "_law_step" = some (some (.ref f__law_step))) (F__law_step : Fun K "_law_step" "_law_step" s__law_step f__law_step d__law_step)
    (a__law_meetings : PySem.W.nsIn K mainGlobals "_law_meetings" = some (some (.ref f__law_meetings))) (F__law_meetings : Fun K "_law_meetings" "_law_meetings" s__law_meetings f__law_meetings d__law_meetings)
    (a__law_book : PySem.W.nsIn K mainGlobals "_law_book" = some (some (.ref f__law_book))) (F__law_book : Fun K "_law_book" "_law_book" s__law_book f__law_book d__law_book)
    (a__law_time : PySem.W.nsIn K mainGlobals "_law_time" = some (some (.ref f__law_time))) (F__law_time : Fun K "_law_time" "_law_time" s__law_time f__law_time d__law_time)
    (a__law_letter : PySem.W.nsIn K mainGlobals "_law_letter" = some (some (.ref f__law_letter))) (F__law_letter : Fun K "_law_letter" "_law_letter" s__law_letter f__law_letter d__law_letter)
    (a__law_whole : PySem.W.nsIn K mainGlobals "_law_whole" = some (some (.ref f__law_whole))) (F__law_whole : Fun K "_law_whole" "_law_whole" s__law_whole f__law_whole d__law_whole)
    (a_is_whole : PySem.W.nsIn K mainGlobals "is_whole" = some (some (.ref f_is_whole))) (F_is_whole : Fun K "is_whole" "is_whole" s_is_whole f_is_whole d_is_whole)
    (a_is_within : PySem.W.nsIn K mainGlobals "is_within" = some (some (.ref f_is_within))) (F_is_within : Fun K "is_within" "is_within" s_is_within f_is_within d_is_within)
    (a_AllMet___init__ : PySem.W.findIn K (.ref c_AllMet) "__init__" = some (some (.ref f_AllMet___init__))) (j_AllMet___init__ : PySem.W.isFn K (.ref f_AllMet___init__) = true) (F_AllMet___init__ : Fun K "__init__" "AllMet.__init__" s_AllMet___init__ f_AllMet___init__ d_AllMet___init__)
    (a_AllMet_at_first : PySem.W.findIn K (.ref c_AllMet) "at_first" = some (some (.ref f_AllMet_at_first))) (j_AllMet_at_first : PySem.W.isFn K (.ref f_AllMet_at_first) = true) (F_AllMet_at_first : Fun K "at_first" "AllMet.at_first" s_AllMet_at_first f_AllMet_at_first d_AllMet_at_first)
    (a_AllMet_share : PySem.W.findIn K (.ref c_AllMet) "share" = some (some (.ref f_AllMet_share))) (j_AllMet_share : PySem.W.isFn K (.ref f_AllMet_share) = true) (F_AllMet_share : Fun K "share" "AllMet.share" s_AllMet_share f_AllMet_share d_AllMet_share)
    (a_Halves___init__ : PySem.W.findIn K (.ref c_Halves) "__init__" = some (some (.ref f_Halves___init__))) (j_Halves___init__ : PySem.W.isFn K (.ref f_Halves___init__) = true) (F_Halves___init__ : Fun K "__init__" "Halves.__init__" s_Halves___init__ f_Halves___init__ d_Halves___init__)
    (a_Halves_at_first : PySem.W.findIn K (.ref c_Halves) "at_first" = some (some (.ref f_Halves_at_first))) (j_Halves_at_first : PySem.W.isFn K (.ref f_Halves_at_first) = true) (F_Halves_at_first : Fun K "at_first" "Halves.at_first" s_Halves_at_first f_Halves_at_first d_Halves_at_first)
    (a_Halves_share : PySem.W.findIn K (.ref c_Halves) "share" = some (some (.ref f_Halves_share))) (j_Halves_share : PySem.W.isFn K (.ref f_Halves_share) = true) (F_Halves_share : Fun K "share" "Halves.share" s_Halves_share f_Halves_share d_Halves_share)
    (a__law_is : PySem.W.nsIn K mainGlobals "_law_is" = some (some (.ref f__law_is))) (F__law_is : Fun K "_law_is" "_law_is" s__law_is f__law_is d__law_is)
    (a__law_thing_here : PySem.W.nsIn K mainGlobals "_law_thing_here" = some (some (.ref f__law_thing_here))) (F__law_thing_here : Fun K "_law_thing_here" "_law_thing_here" s__law_thing_here f__law_thing_here d__law_thing_here)
    (a__law_refused : PySem.W.nsIn K mainGlobals "_law_refused" = some (some (.ref f__law_refused))) (F__law_refused : Fun K "_law_refused" "_law_refused" s__law_refused f__law_refused d__law_refused)
    (a__law_shares : PySem.W.nsIn K mainGlobals "_law_shares" = some (some (.ref f__law_shares))) (F__law_shares : Fun K "_law_shares" "_law_shares" s__law_shares f__law_shares d__law_shares)
    (a_law : PySem.W.nsIn K mainGlobals "law" = some (some (.ref f_law))) (F_law : Fun K "law" "law" s_law f_law d_law)
    (z_ValueError : PySem.W.nsIn K mainGlobals "ValueError" = some none)
    (z_bool : PySem.W.nsIn K mainGlobals "bool" = some none)
    (z_int : PySem.W.nsIn K mainGlobals "int" = some none)
    (z_isinstance : PySem.W.nsIn K mainGlobals "isinstance" = some none)
    (z_len : PySem.W.nsIn K mainGlobals "len" = some none)
    (z_max : PySem.W.nsIn K mainGlobals "max" = some none)
    (z_min : PySem.W.nsIn K mainGlobals "min" = some none)
    (z_range : PySem.W.nsIn K mainGlobals "range" = some none)
    (z_sorted : PySem.W.nsIn K mainGlobals "sorted" = some none)
    (z_tuple : PySem.W.nsIn K mainGlobals "tuple" = some none)
    (g_MOST_TOKENS : PySem.W.nsIn K mainGlobals "MOST_TOKENS" = some (some (.int 64 t_MOST_TOKENS)))
    (e_AllMet : PySem.W.nsIn K mainGlobals "AllMet" = some (some (.ref c_AllMet)))
    (e_Halves : PySem.W.nsIn K mainGlobals "Halves" = some (some (.ref c_Halves)))
    (e_HasIt : PySem.W.nsIn K mainGlobals "HasIt" = some (some (.ref c_HasIt)))
    (e_MeetError : PySem.W.nsIn K mainGlobals "MeetError" = some (some (.ref c_MeetError)))
    (e_Nearer : PySem.W.nsIn K mainGlobals "Nearer" = some (some (.ref c_Nearer)))
    (e_NoBook : PySem.W.nsIn K mainGlobals "NoBook" = some (some (.ref c_NoBook)))
    (e_NoClaim : PySem.W.nsIn K mainGlobals "NoClaim" = some (some (.ref c_NoClaim)))
    (e_NoDay : PySem.W.nsIn K mainGlobals "NoDay" = some (some (.ref c_NoDay)))
    (e_NoDeed : PySem.W.nsIn K mainGlobals "NoDeed" = some (some (.ref c_NoDeed)))
    (e_NoLetter : PySem.W.nsIn K mainGlobals "NoLetter" = some (some (.ref c_NoLetter)))
    (e_NoMeeting : PySem.W.nsIn K mainGlobals "NoMeeting" = some (some (.ref c_NoMeeting)))
    (e_NoName : PySem.W.nsIn K mainGlobals "NoName" = some (some (.ref c_NoName)))
    (e_NoPass : PySem.W.nsIn K mainGlobals "NoPass" = some (some (.ref c_NoPass)))
    (e_NoRoom : PySem.W.nsIn K mainGlobals "NoRoom" = some (some (.ref c_NoRoom)))
    (e_NoRow : PySem.W.nsIn K mainGlobals "NoRow" = some (some (.ref c_NoRow)))
    (e_NoRule : PySem.W.nsIn K mainGlobals "NoRule" = some (some (.ref c_NoRule)))
    (e_NoText : PySem.W.nsIn K mainGlobals "NoText" = some (some (.ref c_NoText)))
    (e_NoWalker : PySem.W.nsIn K mainGlobals "NoWalker" = some (some (.ref c_NoWalker)))
    (e_NotThere : PySem.W.nsIn K mainGlobals "NotThere" = some (some (.ref c_NotThere)))
    (e_Rule : PySem.W.nsIn K mainGlobals "Rule" = some (some (.ref c_Rule)))
    (e_TooMany : PySem.W.nsIn K mainGlobals "TooMany" = some (some (.ref c_TooMany)))
    (e_Twice : PySem.W.nsIn K mainGlobals "Twice" = some (some (.ref c_Twice)))
    (pg_AllMet : PySem.W.plainGet K c_AllMet Str.empty = true) (hd_AllMet : PySem.W.hasDictIn K c_AllMet = true) (po_AllMet : PySem.W.plainOver K c_AllMet = true) (sa_AllMet : PySem.W.findIn K (.ref c_AllMet) "__setattr__" = some (some (.builtin "object.__setattr__")))
    (pg_Halves : PySem.W.plainGet K c_Halves Str.empty = true) (hd_Halves : PySem.W.hasDictIn K c_Halves = true) (po_Halves : PySem.W.plainOver K c_Halves = true) (sa_Halves : PySem.W.findIn K (.ref c_Halves) "__setattr__" = some (some (.builtin "object.__setattr__")))
    (mk_AllMet : PySem.W.makesIn K c_AllMet = true) (kc_AllMet : PySem.W.keepIn K (.ref c_AllMet) = true)
    (mk_Halves : PySem.W.makesIn K c_Halves = true) (kc_Halves : PySem.W.keepIn K (.ref c_Halves) = true)
    (nf_Halves_tokens : PySem.W.findIn K (.ref c_Halves) "tokens" = some none)
    (xx_NoRule : xclsB K c_NoRule = true)
    (oo_Halves : oclsB K c_Halves = true)
    (oo_AllMet : oclsB K c_AllMet = true)
    (ff_f_em : PySem.W.exmOne K (.ref c_NoRule) (.ref c_MeetError) = some true)
    (ff_f_ve : PySem.W.kitOne K (.ref c_NoRule) (.type "ValueError") = some true)
    (ff_f_ka : PySem.W.kitAny K (.ref c_NoRule) [.ref c_NoBook, .ref c_NoMeeting, .ref c_NoDeed, .ref c_NoLetter, .ref c_NoWalker, .ref c_NotThere, .ref c_HasIt, .ref c_NoPass, .ref c_NoRoom] = some false)
    (ff_f_kb : PySem.W.kitAny K (.ref c_NoRule) [.ref c_TooMany, .ref c_NoDay, .ref c_NoClaim, .ref c_NoText, .ref c_NoRow, .ref c_NoName, .ref c_Twice] = some false)
    (ff_f_ar : PySem.W.kitOne K (.ref c_AllMet) (.ref c_Rule) = some true)
    (ff_f_ao : PySem.W.kitAny K (.ref c_AllMet) [.ref c_Halves, .ref c_Nearer] = some false)
    (ff_f_hr : PySem.W.kitOne K (.ref c_Halves) (.ref c_Rule) = some true)
    (ff_f_ho : PySem.W.kitAny K (.ref c_Halves) [.ref c_AllMet, .ref c_Nearer] = some false) :
    ∃ fd : FuncData, (∀ (s : Shared) (v : Value), BindsTo s fd ⟨[v], []⟩ [("_law_script_here", v)]) ∧ ∀ base : Heap, K.In base → base.Ns mainGlobals mg → FnOk l.prog w K mg base CX0 6 fa fd ["_law_script_here"] (spLaw K) := by
  have e := hfa.symm.trans (PySem.W.mg_of X G a_law)
  cases e
  have b__law_purse := F__law_purse.binds (ps := ["_law_script", "_law_k"]) fun _ _ _ _ _ _ us hl => us2 hl fun _ _ => rfl
  have b__law_take := F__law_take.binds (ps := ["_law_purse_here", "_law_many"]) fun _ _ _ _ _ _ us hl => us2 hl fun _ _ => rfl
  have b__law_far := F__law_far.binds (ps := ["_law_purse_here"]) fun _ _ _ _ _ _ us hl => us1 hl fun _ => rfl
  have b__law_rooms := F__law_rooms.binds (ps := ["_law_purse_here", "_law_walkers"]) fun _ _ _ _ _ _ us hl => us2 hl fun _ _ => rfl
  have b__law_step := F__law_step.binds (ps := ["_law_purse_here"]) fun _ _ _ _ _ _ us hl => us1 hl fun _ => rfl
  have b__law_meetings := F__law_meetings.binds (ps := ["_law_purse_here", "_law_walkers", "_law_most"]) fun _ _ _ _ _ _ us hl => us3 hl fun _ _ _ => rfl
  have b__law_book := F__law_book.binds (ps := ["_law_purse_here", "_law_most_walkers", "_law_most_meetings"]) fun _ _ _ _ _ _ us hl => us3 hl fun _ _ _ => rfl
  have b__law_time := F__law_time.binds (ps := ["_law_purse_here", "_law_book_here", "_law_later"]) fun _ _ _ _ _ _ us hl => us3 hl fun _ _ _ => rfl
  have b__law_letter := F__law_letter.binds (ps := ["_law_purse_here", "_law_book_here"]) fun _ _ _ _ _ _ us hl => us2 hl fun _ _ => rfl
  have b__law_whole := F__law_whole.binds (ps := ["_law_thing_here"]) fun _ _ _ _ _ _ us hl => us1 hl fun _ => rfl
  have b_is_whole := F_is_whole.binds (ps := ["thing"]) fun _ _ _ _ _ _ us hl => us1 hl fun _ => rfl
  have b_is_within := F_is_within.binds (ps := ["thing", "least", "most"]) fun _ _ _ _ _ _ us hl => us3 hl fun _ _ _ => rfl
  have b_AllMet___init__ := F_AllMet___init__.binds (ps := ["self"]) fun _ _ _ _ _ _ us hl => us1 hl fun _ => rfl
  have b_AllMet_at_first := F_AllMet_at_first.binds (ps := ["self"]) fun _ _ _ _ _ _ us hl => us1 hl fun _ => rfl
  have b_AllMet_share := F_AllMet_share.binds (ps := ["self", "letter", "giver", "other", "tokens"]) fun _ _ _ _ _ _ us hl => us5 hl fun _ _ _ _ _ => rfl
  have b_Halves___init__ := F_Halves___init__.binds (ps := ["self", "tokens"]) fun _ _ _ _ _ _ us hl => us2 hl fun _ _ => rfl
  have b_Halves_at_first := F_Halves_at_first.binds (ps := ["self"]) fun _ _ _ _ _ _ us hl => us1 hl fun _ => rfl
  have b_Halves_share := F_Halves_share.binds (ps := ["self", "letter", "giver", "other", "tokens"]) fun _ _ _ _ _ _ us hl => us5 hl fun _ _ _ _ _ => rfl
  have b__law_is := F__law_is.binds (ps := ["_law_found", "_law_due"]) fun _ _ _ _ _ _ us hl => us2 hl fun _ _ => rfl
  have b__law_thing_here := F__law_thing_here.binds (ps := ["_law_purse_here"]) fun _ _ _ _ _ _ us hl => us1 hl fun _ => rfl
  have b__law_refused := F__law_refused.binds (ps := ["_law_thing_here_here"]) fun _ _ _ _ _ _ us hl => us1 hl fun _ => rfl
  have b__law_shares := F__law_shares.binds (ps := ["_law_rule_here", "_law_letter_here", "_law_giver", "_law_taker", "_law_tokens"]) fun _ _ _ _ _ _ us hl => us5 hl fun _ _ _ _ _ => rfl
  have b_law := F_law.binds (ps := ["_law_script_here"]) fun _ _ _ _ _ _ us hl => us1 hl fun _ => rfl
  have T : Tx K mg ⟨f__law_purse, d__law_purse, f__law_take, d__law_take, f__law_far, d__law_far, f__law_rooms, d__law_rooms, f__law_step, d__law_step, f__law_meetings, d__law_meetings, f__law_book, d__law_book, f__law_time, d__law_time, f__law_letter, d__law_letter, f__law_whole, d__law_whole, f_is_whole, d_is_whole, f_is_within, d_is_within, f_AllMet___init__, d_AllMet___init__, f_AllMet_at_first, d_AllMet_at_first, f_AllMet_share, d_AllMet_share, f_Halves___init__, d_Halves___init__, f_Halves_at_first, d_Halves_at_first, f_Halves_share, d_Halves_share, f__law_is, d__law_is, f__law_thing_here, d__law_thing_here, f__law_refused, d__law_refused, f__law_shares, d__law_shares, fa, d_law, c_AllMet, c_Halves, c_HasIt, c_MeetError, c_Nearer, c_NoBook, c_NoClaim, c_NoDay, c_NoDeed, c_NoLetter, c_NoMeeting, c_NoName, c_NoPass, c_NoRoom, c_NoRow, c_NoRule, c_NoText, c_NoWalker, c_NotThere, c_Rule, c_TooMany, c_Twice⟩ t_MOST_TOKENS := ⟨F__law_purse, b__law_purse, PySem.W.mg_of X G a__law_purse, F__law_purse.kp, F__law_take, b__law_take, PySem.W.mg_of X G a__law_take, F__law_take.kp, F__law_far, b__law_far, PySem.W.mg_of X G a__law_far, F__law_far.kp, F__law_rooms, b__law_rooms, PySem.W.mg_of X G a__law_rooms, F__law_rooms.kp, F__law_step, b__law_step, PySem.W.mg_of X G a__law_step, F__law_step.kp, F__law_meetings, b__law_meetings, PySem.W.mg_of X G a__law_meetings, F__law_meetings.kp, F__law_book, b__law_book, PySem.W.mg_of X G a__law_book, F__law_book.kp, F__law_time, b__law_time, PySem.W.mg_of X G a__law_time, F__law_time.kp, F__law_letter, b__law_letter, PySem.W.mg_of X G a__law_letter, F__law_letter.kp, F__law_whole, b__law_whole, PySem.W.mg_of X G a__law_whole, F__law_whole.kp, F_is_whole, b_is_whole, PySem.W.mg_of X G a_is_whole, F_is_whole.kp, F_is_within, b_is_within, PySem.W.mg_of X G a_is_within, F_is_within.kp, F_AllMet___init__, b_AllMet___init__, ⟨a_AllMet___init__, j_AllMet___init__, F_AllMet___init__.kp⟩, F_AllMet___init__.kp, F_AllMet_at_first, b_AllMet_at_first, ⟨a_AllMet_at_first, j_AllMet_at_first, F_AllMet_at_first.kp⟩, F_AllMet_at_first.kp, F_AllMet_share, b_AllMet_share, ⟨a_AllMet_share, j_AllMet_share, F_AllMet_share.kp⟩, F_AllMet_share.kp, F_Halves___init__, b_Halves___init__, ⟨a_Halves___init__, j_Halves___init__, F_Halves___init__.kp⟩, F_Halves___init__.kp, F_Halves_at_first, b_Halves_at_first, ⟨a_Halves_at_first, j_Halves_at_first, F_Halves_at_first.kp⟩, F_Halves_at_first.kp, F_Halves_share, b_Halves_share, ⟨a_Halves_share, j_Halves_share, F_Halves_share.kp⟩, F_Halves_share.kp, F__law_is, b__law_is, PySem.W.mg_of X G a__law_is, F__law_is.kp, F__law_thing_here, b__law_thing_here, PySem.W.mg_of X G a__law_thing_here, F__law_thing_here.kp, F__law_refused, b__law_refused, PySem.W.mg_of X G a__law_refused, F__law_refused.kp, F__law_shares, b__law_shares, PySem.W.mg_of X G a__law_shares, F__law_shares.kp, F_law, b_law, PySem.W.mg_of X G a_law, F_law.kp, PySem.W.mg_none_of X G z_ValueError, PySem.W.mg_none_of X G z_bool, PySem.W.mg_none_of X G z_int, PySem.W.mg_none_of X G z_isinstance, PySem.W.mg_none_of X G z_len, PySem.W.mg_none_of X G z_max, PySem.W.mg_none_of X G z_min, PySem.W.mg_none_of X G z_range, PySem.W.mg_none_of X G z_sorted, PySem.W.mg_none_of X G z_tuple, PySem.W.mg_of X G e_AllMet, PySem.W.mg_of X G e_Halves, PySem.W.mg_of X G e_HasIt, PySem.W.mg_of X G e_MeetError, PySem.W.mg_of X G e_Nearer, PySem.W.mg_of X G e_NoBook, PySem.W.mg_of X G e_NoClaim, PySem.W.mg_of X G e_NoDay, PySem.W.mg_of X G e_NoDeed, PySem.W.mg_of X G e_NoLetter, PySem.W.mg_of X G e_NoMeeting, PySem.W.mg_of X G e_NoName, PySem.W.mg_of X G e_NoPass, PySem.W.mg_of X G e_NoRoom, PySem.W.mg_of X G e_NoRow, PySem.W.mg_of X G e_NoRule, PySem.W.mg_of X G e_NoText, PySem.W.mg_of X G e_NoWalker, PySem.W.mg_of X G e_NotThere, PySem.W.mg_of X G e_Rule, PySem.W.mg_of X G e_TooMany, PySem.W.mg_of X G e_Twice, XCls.of xx_NoRule, ⟨pg_AllMet, hd_AllMet, po_AllMet, sa_AllMet⟩, ⟨pg_Halves, hd_Halves, po_Halves, sa_Halves⟩, ⟨mk_AllMet, a_AllMet___init__, j_AllMet___init__, kc_AllMet⟩, ⟨mk_Halves, a_Halves___init__, j_Halves___init__, kc_Halves⟩, nf_Halves_tokens, OCls.of oo_Halves, OCls.of oo_AllMet, ff_f_em, ff_f_ve, ff_f_ka, ff_f_kb, ff_f_ar, ff_f_ao, ff_f_hr, ff_f_ho, PySem.W.mg_of X G g_MOST_TOKENS⟩
  obtain ⟨_, _, _, _, _, _, _, _, _, rfl, _, _⟩ := F_law.ex
  exact ⟨_, fun s v => .of_eq rfl, fun base _ _ => ok_law T⟩
theorem walk {l : PySem.W.OpenLaw} {q : Program} {loose : List Str} {XP : (Str → Option Value) → Heap → Prop} {YP : World → Heap → Prop} {d : DefRec} {K : Params → PySem.W.Frag} (hn : l.most = some 63) (hdf : d.params.defaults = [])
    (hY : ∀ (w : World) (h : Heap), YP w h → (K w.params).In h)
    (F : ∀ (w : World) (mg : Str → Option Value) (fa : Addr) (h : Heap), (K w.params).In h → h.Ns mainGlobals mg → mg d.name = some (.ref fa) →
      ∃ fd : FuncData, (∀ (s : Shared) (u : Value), BindsTo s fd ⟨[u], []⟩ [("_law_script_here", u)]) ∧ ∀ base : Heap, (K w.params).In base → base.Ns mainGlobals mg → FnOk l.prog w (K w.params) mg base CX0 6 fa fd ["_law_script_here"] (spLaw (K w.params))) :
    PySem.W.WalkO q loose XP YP l.row.toRowW d [] (fun f vs => PySem.call f vs) :=
  L2.walk_of (n := 63) (k := 6) (x := "_law_script_here") (CX := fun _ => CX0) (sp := fun w => spLaw (K w.params)) hn (by decide) hdf ⟨rfl, by decide, by decide⟩ hY F (fun _ _ a ns hl _ hS => ⟨a, ns, rfl, hS, hl, fun _ => rfl⟩) fun _ _ _ _ _ z => z
end Sm
def PySem.W.Fast.tw1366494339161841633 : Nat := 0
def PySem.W.Fast.tw5337368780530176352 : Nat := 0
def PySem.W.Fast.tw759608264089888277 : Nat := 0
def PySem.W.Fast.tw4505880154489136508 : Nat := 0
def PySem.W.Fast.tw4841018359277498501 : Nat := 0
def PySem.W.Fast.tw4203922848938065240 : Nat := 0
def PySem.W.Fast.tw4539296412938516886 : Nat := 0
def PySem.W.Fast.tw138978902605447456 : Nat := 0
def PySem.W.Fast.tw10270248235764349872 : Nat := 0
def PySem.W.Fast.tw10049631183590559233 : Nat := 0
def PySem.W.Fast.tw3206020901304418601 : Nat := 0
def PySem.W.Fast.tw5026401809649342627 : Nat := 0
def PySem.W.Fast.tw373019045493463721 : Nat := 0
def PySem.W.Fast.tw15880528112379790868 : Nat := 0
def PySem.W.Fast.tw14042101693175209801 : Nat := 0
def PySem.W.Fast.tw11885824585963530139 : Nat := 0
def PySem.W.Fast.tw3152637318574307262 : Nat := 0
def PySem.W.Fast.tw9393491310867390344 : Nat := 0
def PySem.W.Fast.tw16995646976922134668 : Nat := 0
def PySem.W.Fast.tw16404439930670310646 : Nat := 0
def PySem.W.Fast.tw11627163227227642975 : Nat := 0
def PySem.W.Fast.tw865752357334373670 : Nat := 0
def PySem.W.Fast.tw2409262902971981874 : Nat := 0
def PySem.W.Fast.tw17241124592551826040 : Nat := 0
def PySem.W.Fast.tw2597235918043644212 : Nat := 0
def PySem.W.Fast.tw3410077603289405058 : Nat := 0
def PySem.W.Fast.tw16266598709129856159 : Nat := 0
def PySem.W.Fast.tw10758875485781064638 : Nat := 0
def PySem.W.Fast.tw3920791149132456763 : Nat := 0
def PySem.W.Fast.tw6199168182502932004 : Nat := 0
def PySem.W.Fast.tw12578736575756204784 : Nat := 0
def PySem.W.Fast.tw9526226888872625466 : Nat := 0
def PySem.W.Fast.tw13282054799227975768 : Nat := 0
def PySem.W.Fast.tw7693792886044406989 : Nat := 0
def PySem.W.Fast.tw3577540282388591257 : Nat := 0
def PySem.W.Fast.tw1233890695323585524 : Nat := 0
def PySem.W.Fast.tw11615461042122088868 : Nat := 0
def PySem.W.Fast.tw13682341101076216373 : Nat := 0
def PySem.W.Fast.tw898016108526873601 : Nat := 0
def PySem.W.Fast.tw2145090609241455050 : Nat := 0
def PySem.W.Fast.tw2053881186956468104 : Nat := 0
def PySem.W.Fast.tw10065194790886607191 : Nat := 0
def PySem.W.Fast.tw3693262986622987996 : Nat := 0
def PySem.W.Fast.tw8593801957768520867 : Nat := 0
def PySem.W.Fast.tw8720004167479972446 : Nat := 0
def PySem.W.Fast.tw13457958788178745145 : Nat := 0
def PySem.W.Fast.tw16754902601095274312 : Nat := 0
def PySem.W.Fast.tw17692128933043591692 : Nat := 0
def PySem.W.Fast.tw1616465788105602045 : Nat := 0
def PySem.W.Fast.tw5523824617250726343 : Nat := 0
def PySem.W.Fast.tw9072247178330262214 : Nat := 0
def PySem.W.Fast.tw15298498041342436797 : Nat := 0
def PySem.W.Fast.tw4587857543454604212 : Nat := 0
def PySem.W.Fast.tw8864869570249437245 : Nat := 0
def PySem.W.Fast.tw11238247946992520757 : Nat := 0
def PySem.W.Fast.tw11048716176581873173 : Nat := 0
def PySem.W.Fast.tw8471845956955352047 : Nat := 0
def PySem.W.Fast.tw1669083158586933859 : Nat := 0
def PySem.W.Fast.tw6847367875871849370 : Nat := 0
def PySem.W.Fast.tw13360864436452447294 : Nat := 0
def PySem.W.Fast.tw13503164547536210158 : Nat := 0
def PySem.W.Fast.tw9282693449685531164 : Nat := 0
def PySem.W.Fast.tw635888647806492317 : Nat := 0
def PySem.W.Fast.tw1322035101434692574 : Nat := 0
def PySem.W.Fast.tw12188444954595668001 : Nat := 0
def PySem.W.Fast.tw15855138990299471487 : Nat := 0
def PySem.W.Fast.tw17098593241653894638 : Nat := 0
def PySem.W.Fast.tw7110812310565009641 : Nat := 0
def PySem.W.Fast.tw12185499164834633401 : Nat := 0
def PySem.W.Fast.tw1824701917972357558 : Nat := 0
def PySem.W.Fast.tw307492433313571299 : Nat := 0
def PySem.W.Fast.tw5703734085749944059 : Nat := 0
def PySem.W.Fast.tw5867277463995519190 : Nat := 0
def PySem.W.Fast.tw6945326600491021130 : Nat := 0
def PySem.W.Fast.tw9999857626266762359 : Nat := 0
def PySem.W.Fast.tw9985702437303748976 : Nat := 0
def PySem.W.Fast.tw18215090573918960388 : Nat := 0
def PySem.W.Fast.tw4607922608221975814 : Nat := 0
def PySem.W.Fast.tw2258485655740520884 : Nat := 0
def PySem.W.Fast.tw1652248775833939191 : Nat := 0
def PySem.W.Fast.tw17588120243987004667 : Nat := 0
def PySem.W.Fast.tw3846581459148534521 : Nat := 0
def PySem.W.Fast.tw16130363150581710265 : Nat := 0
def PySem.W.Fast.tw2545277922480882178 : Nat := 0
def PySem.W.Fast.tw16475590472114718456 : Nat := 0
def PySem.W.Fast.tw13113134174112793757 : Nat := 0
def PySem.W.Fast.tw18196106481733861913 : Nat := 0
def PySem.W.Fast.tw16399780930824290804 : Nat := 0
def PySem.W.Fast.tw13340962699856029188 : Nat := 0
def PySem.W.Fast.tw12849976042466853523 : Nat := 0
def PySem.W.Fast.tw4248946257965907510 : Nat := 0
def PySem.W.Fast.tw3309210864479636470 : Nat := 0
def PySem.W.Fast.tw17339254012661790243 : Nat := 0
def PySem.W.Fast.tw4164299235522327405 : Nat := 0
def PySem.W.Fast.tw8697865671146306964 : Nat := 0
def PySem.W.Fast.tw3000218806558694824 : Nat := 0
def PySem.W.Fast.tw690165180888929627 : Nat := 0
def PySem.W.Fast.tw3309676206752708151 : Nat := 0
def PySem.W.Fast.tw15702526202472831244 : Nat := 0
def PySem.W.Fast.tw14045137667360098817 : Nat := 0
def PySem.W.Fast.tw13611223748706676888 : Nat := 0
def PySem.W.Fast.tw13504618895665150940 : Nat := 0
def PySem.W.Fast.tw7739395914996753324 : Nat := 0
def PySem.W.Fast.tw8750821859347701437 : Nat := 0
def PySem.W.Fast.tw10418898456412964499 : Nat := 0
def PySem.W.Fast.tw2870259515967900222 : Nat := 0
def PySem.W.Fast.tw6299056205928797069 : Nat := 0
def PySem.W.Fast.tw464644577980361243 : Nat := 0
def PySem.W.Fast.tw14456154667965338677 : Nat := 0
def PySem.W.Fast.tw5178436143943924728 : Nat := 0
def PySem.W.Fast.tw881402175588958185 : Nat := 0
def PySem.W.Fast.tw6689117454052194535 : Nat := 0
def PySem.W.Fast.tw2753218388790412028 : Nat := 0
def PySem.W.Fast.tw14289639592295860001 : Nat := 0
open PySem PySem.W PyProof.Rows
set_option maxRecDepth 100000 in
set_option maxHeartbeats 0 in
theorem PySem.Challenge.cw_satchelmeet_k51_halves_and_all_met_holds : PySem.Challenge.rw_satchelmeet_k51_halves_and_all_met.Holds := by
  w_on; o_law; k_head; (case hw => w_witness2)
  k_fill
  refine Sm.walk (l := PySem.Challenge.rw_satchelmeet_k51_halves_and_all_met) rfl rfl (fun w h Y => PySem.W.kIn_of Y) ?F
  case F =>
    intro w mg fa h KX G hmg
    refine' Sm.all_mk KX G hmg ?a__law_purse ?F__law_purse ?a__law_take ?F__law_take ?a__law_far ?F__law_far ?a__law_rooms ?F__law_rooms ?a__law_step ?F__law_step ?a__law_meetings ?F__law_meetings ?a__law_book ?F__law_book ?a__law_time ?F__law_time ?a__law_letter ?F__law_letter ?a__law_whole ?F__law_whole ?a_is_whole ?F_is_whole ?a_is_within ?F_is_within ?a_AllMet___init__ ?j_AllMet___init__ ?F_AllMet___init__ ?a_AllMet_at_first ?j_AllMet_at_first ?F_AllMet_at_first ?a_AllMet_share ?j_AllMet_share ?F_AllMet_share ?a_Halves___init__ ?j_Halves___init__ ?F_Halves___init__ ?a_Halves_at_first ?j_Halves_at_first ?F_Halves_at_first ?a_Halves_share ?j_Halves_share ?F_Halves_share ?a__law_is ?F__law_is ?a__law_thing_here ?F__law_thing_here ?a__law_refused ?F__law_refused ?a__law_shares ?F__law_shares ?a_law ?F_law ?z_ValueError ?z_bool ?z_int ?z_isinstance ?z_len ?z_max ?z_min ?z_range ?z_sorted ?z_tuple ?g_MOST_TOKENS ?e_AllMet ?e_Halves ?e_HasIt ?e_MeetError ?e_Nearer ?e_NoBook ?e_NoClaim ?e_NoDay ?e_NoDeed ?e_NoLetter ?e_NoMeeting ?e_NoName ?e_NoPass ?e_NoRoom ?e_NoRow ?e_NoRule ?e_NoText ?e_NoWalker ?e_NotThere ?e_Rule ?e_TooMany ?e_Twice ?pg_AllMet ?hd_AllMet ?po_AllMet ?sa_AllMet ?pg_Halves ?hd_Halves ?po_Halves ?sa_Halves ?mk_AllMet ?kc_AllMet ?mk_Halves ?kc_Halves ?nf_Halves_tokens ?xx_NoRule ?oo_Halves ?oo_AllMet ?ff_f_em ?ff_f_ve ?ff_f_ka ?ff_f_kb ?ff_f_ar ?ff_f_ao ?ff_f_hr ?ff_f_ho
    (case e_AllMet => k_is)
    (case e_Halves => k_is)
    (case e_HasIt => k_is)
    (case e_MeetError => k_is)
    (case e_Nearer => k_is)
    (case e_NoBook => k_is)
    (case e_NoClaim => k_is)
    (case e_NoDay => k_is)
    (case e_NoDeed => k_is)
    (case e_NoLetter => k_is)
    (case e_NoMeeting => k_is)
    (case e_NoName => k_is)
    (case e_NoPass => k_is)
    (case e_NoRoom => k_is)
    (case e_NoRow => k_is)
    (case e_NoRule => k_is)
    (case e_NoText => k_is)
    (case e_NoWalker => k_is)
    (case e_NotThere => k_is)
    (case e_Rule => k_is)
    (case e_TooMany => k_is)
    (case e_Twice => k_is)
    (case a__law_purse => k_is)
    (case F__law_purse => refine' L2.fun_mk ?x1 ?y1 ?z1; (case x1 => k_is); (case y1 => k_is); (case z1 => k_is))
    (case a__law_take => k_is)
    (case F__law_take => refine' L2.fun_mk ?x3 ?y3 ?z3; (case x3 => k_is); (case y3 => k_is); (case z3 => k_is))
    (case a__law_far => k_is)
    (case F__law_far => refine' L2.fun_mk ?x5 ?y5 ?z5; (case x5 => k_is); (case y5 => k_is); (case z5 => k_is))
    (case a__law_rooms => k_is)
    (case F__law_rooms => refine' L2.fun_mk ?x7 ?y7 ?z7; (case x7 => k_is); (case y7 => k_is); (case z7 => k_is))
    (case a__law_step => k_is)
    (case F__law_step => refine' L2.fun_mk ?x9 ?y9 ?z9; (case x9 => k_is); (case y9 => k_is); (case z9 => k_is))
    (case a__law_meetings => k_is)
    (case F__law_meetings => refine' L2.fun_mk ?x11 ?y11 ?z11; (case x11 => k_is); (case y11 => k_is); (case z11 => k_is))
    (case a__law_book => k_is)
    (case F__law_book => refine' L2.fun_mk ?x13 ?y13 ?z13; (case x13 => k_is); (case y13 => k_is); (case z13 => k_is))
    (case a__law_time => k_is)
    (case F__law_time => refine' L2.fun_mk ?x15 ?y15 ?z15; (case x15 => k_is); (case y15 => k_is); (case z15 => k_is))
    (case a__law_letter => k_is)
    (case F__law_letter => refine' L2.fun_mk ?x17 ?y17 ?z17; (case x17 => k_is); (case y17 => k_is); (case z17 => k_is))
    (case a__law_whole => k_is)
    (case F__law_whole => refine' L2.fun_mk ?x19 ?y19 ?z19; (case x19 => k_is); (case y19 => k_is); (case z19 => k_is))
    (case a_is_whole => k_is)
    (case F_is_whole => refine' L2.fun_mk ?x21 ?y21 ?z21; (case x21 => k_is); (case y21 => k_is); (case z21 => k_is))
    (case a_is_within => k_is)
    (case F_is_within => refine' L2.fun_mk ?x23 ?y23 ?z23; (case x23 => k_is); (case y23 => k_is); (case z23 => k_is))
    (case a_AllMet___init__ => k_is)
    (case j_AllMet___init__ => k_is)
    (case F_AllMet___init__ => refine' L2.fun_mk ?x26 ?y26 ?z26; (case x26 => k_is); (case y26 => k_is); (case z26 => k_is))
    (case a_AllMet_at_first => k_is)
    (case j_AllMet_at_first => k_is)
    (case F_AllMet_at_first => refine' L2.fun_mk ?x29 ?y29 ?z29; (case x29 => k_is); (case y29 => k_is); (case z29 => k_is))
    (case a_AllMet_share => k_is)
    (case j_AllMet_share => k_is)
    (case F_AllMet_share => refine' L2.fun_mk ?x32 ?y32 ?z32; (case x32 => k_is); (case y32 => k_is); (case z32 => k_is))
    (case a_Halves___init__ => k_is)
    (case j_Halves___init__ => k_is)
    (case F_Halves___init__ => refine' L2.fun_mk ?x35 ?y35 ?z35; (case x35 => k_is); (case y35 => k_is); (case z35 => k_is))
    (case a_Halves_at_first => k_is)
    (case j_Halves_at_first => k_is)
    (case F_Halves_at_first => refine' L2.fun_mk ?x38 ?y38 ?z38; (case x38 => k_is); (case y38 => k_is); (case z38 => k_is))
    (case a_Halves_share => k_is)
    (case j_Halves_share => k_is)
    (case F_Halves_share => refine' L2.fun_mk ?x41 ?y41 ?z41; (case x41 => k_is); (case y41 => k_is); (case z41 => k_is))
    (case a__law_is => k_is)
    (case F__law_is => refine' L2.fun_mk ?x43 ?y43 ?z43; (case x43 => k_is); (case y43 => k_is); (case z43 => k_is))
    (case a__law_thing_here => k_is)
    (case F__law_thing_here => refine' L2.fun_mk ?x45 ?y45 ?z45; (case x45 => k_is); (case y45 => k_is); (case z45 => k_is))
    (case a__law_refused => k_is)
    (case F__law_refused => refine' L2.fun_mk ?x47 ?y47 ?z47; (case x47 => k_is); (case y47 => k_is); (case z47 => k_is))
    (case a__law_shares => k_is)
    (case F__law_shares => refine' L2.fun_mk ?x49 ?y49 ?z49; (case x49 => k_is); (case y49 => k_is); (case z49 => k_is))
    (case a_law => k_is)
    (case F_law => refine' L2.fun_mk ?x51 ?y51 ?z51; (case x51 => k_is); (case y51 => k_is); (case z51 => k_is))
    (case z_ValueError => k_is)
    (case z_bool => k_is)
    (case z_int => k_is)
    (case z_isinstance => k_is)
    (case z_len => k_is)
    (case z_max => k_is)
    (case z_min => k_is)
    (case z_range => k_is)
    (case z_sorted => k_is)
    (case z_tuple => k_is)
    (case g_MOST_TOKENS => k_is)
    (case pg_AllMet => k_is)
    (case hd_AllMet => k_is)
    (case po_AllMet => k_is)
    (case sa_AllMet => k_is)
    (case pg_Halves => k_is)
    (case hd_Halves => k_is)
    (case po_Halves => k_is)
    (case sa_Halves => k_is)
    (case mk_AllMet => k_is)
    (case kc_AllMet => k_is)
    (case mk_Halves => k_is)
    (case kc_Halves => k_is)
    (case nf_Halves_tokens => k_is)
    (case xx_NoRule => kernel_rfl)
    (case oo_Halves => kernel_rfl)
    (case oo_AllMet => kernel_rfl)
    (case ff_f_em => kernel_rfl)
    (case ff_f_ve => kernel_rfl)
    (case ff_f_ka => kernel_rfl)
    (case ff_f_kb => kernel_rfl)
    (case ff_f_ar => kernel_rfl)
    (case ff_f_ao => kernel_rfl)
    (case ff_f_hr => kernel_rfl)
    (case ff_f_ho => kernel_rfl)

