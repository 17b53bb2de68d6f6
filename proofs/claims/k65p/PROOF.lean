import PyProof.Rows.All
import Wide.All
import OpenK.AllK
import Wide.FinOn
import Lean
import PyProof.EqAt
import PyProof.EqKinds
import PyProof.TupleCall
import PyProof.SetRoads
import PyProof.SetNew
import PyProof.TupleKey
import PyProof.InstEq
import PySem.SetOps
import KE.KTryMore
import PyProof.NsDelKeeps
import KE.KLam
import KE.KNestM
import KE.KSortTup
import PySem.Challenge.RW_satchelmeet_k65_days_refused
set_option Elab.async false
set_option linter.all false
set_option maxRecDepth 100000
namespace L2
open PySem PySem.Spec PyProof.Rows
abbrev Key := Sum Int Str
def keyIs : Key → Value → Bool
  | .inl k, v => Value.isInt k v
  | .inr x, v => Value.isStrOf x v
def keyH (w : World) : Key → Int
  | .inl k => hashInt k
  | .inr x => hashStr w x
theorem keyIs_shape : ∀ {k : Key} {v : Value}, keyIs k v = true → (∃ i t, k = Sum.inl i ∧ v = Value.int i t) ∨ (∃ x t, k = Sum.inr x ∧ v = Value.str x t)
  | .inl i, v, h => by
    obtain ⟨t, e⟩ := Value.isInt_shape (k := i) (v := v) h
    exact .inl ⟨i, t, rfl, e⟩
  | .inr x, v, h => by
    obtain ⟨t, e⟩ := Value.isStrOf_shape (x := x) (v := v) h
    exact .inr ⟨x, t, rfl, e⟩
theorem keyIs_int (i : Int) (t : Tok) : keyIs (.inl i) (.int i t) = true := by simp [keyIs, Value.isInt]
theorem keyIs_str (x : Str) (t : Tok) : keyIs (.inr x) (.str x t) = true := by simp [keyIs, Value.isStrOf]
theorem key_ll (a b : Int) : decide ((Sum.inl a : Key) = Sum.inl b) = (a == b) := by
  by_cases e : a = b
  · subst e; simp
  · have h : ¬ (Sum.inl a : Key) = Sum.inl b := fun q => e (Sum.inl.inj q)
    rw [decide_eq_false h]
    exact (beq_eq_false_iff_ne.mpr e).symm
theorem key_rr (a b : Str) : decide ((Sum.inr a : Key) = Sum.inr b) = decide (a = b) := by
  by_cases e : a = b
  · subst e; simp
  · have h : ¬ (Sum.inr a : Key) = Sum.inr b := fun q => e (Sum.inr.inj q)
    rw [decide_eq_false h, decide_eq_false e]
theorem key_lr (a : Int) (b : Str) : decide ((Sum.inl a : Key) = Sum.inr b) = false := decide_eq_false (fun q => nomatch q)
theorem key_rl (a : Str) (b : Int) : decide ((Sum.inr a : Key) = Sum.inl b) = false := decide_eq_false (fun q => nomatch q)
def mixKind (prog : Program) (w : World) : PySem.KeyKind prog w Key where
  is := keyIs
  hash := keyH w
  inj := fun v a b ha hb => by
    rcases keyIs_shape ha with ⟨i, t, rfl, rfl⟩ | ⟨x, t, rfl, rfl⟩
    · rcases keyIs_shape hb with ⟨j, u, rfl, e⟩ | ⟨y, u, rfl, e⟩
      · injection e with e1 _; rw [e1]
      · exact nomatch e
    · rcases keyIs_shape hb with ⟨j, u, rfl, e⟩ | ⟨y, u, rfl, e⟩
      · exact nomatch e
      · injection e with e1 _; rw [e1]
  byValue := fun k v h => by
    rcases keyIs_shape h with ⟨i, t, rfl, rfl⟩ | ⟨x, t, rfl, rfl⟩ <;> rfl
  pyHash := fun hv h => by
    rcases keyIs_shape hv with ⟨i, t, rfl, rfl⟩ | ⟨x, t, rfl, rfl⟩
    · exact wpAny_pyHash_int h
    · exact wpAny_pyHash_str h
  eqBool := fun hu hv h => by
    rcases keyIs_shape hu with ⟨i, t, rfl, rfl⟩ | ⟨x, t, rfl, rfl⟩
    · rcases keyIs_shape hv with ⟨j, u, rfl, rfl⟩ | ⟨y, u, rfl, rfl⟩
      · rw [key_ll] at h; exact wpAny_eqBool_int h
      · rw [key_lr] at h; exact SeqAt.EqAt.int_str i t y u _ _ _ _ h
    · rcases keyIs_shape hv with ⟨j, u, rfl, rfl⟩ | ⟨y, u, rfl, rfl⟩
      · rw [key_rl] at h; exact SeqAt.EqAt.str_int x t j u _ _ _ _ h
      · rw [key_rr] at h; exact wpAny_eqBool_str h
  «strs» := fun k x t v h => by
    rcases keyIs_shape h with ⟨i, u, rfl, e⟩ | ⟨y, u, rfl, e⟩
    · exact nomatch e
    · injection e with e1 _
      subst e1
      cases v <;> rfl
theorem mixKind_int (prog : Program) (w : World) (i : Int) (t : Tok) : (mixKind prog w).is (.inl i) (.int i t) = true := keyIs_int i t
theorem mixKind_str (prog : Program) (w : World) (x : Str) (t : Tok) : (mixKind prog w).is (.inr x) (.str x t) = true := keyIs_str x t
end L2
namespace L2
open PySem PySem.Spec PyProof.Rows
inductive V where
  | non | bl (b : Bool) | int (i : Int) | str (x : Str) | byt (b : Array UInt8) | flt (b : UInt64) | ref (a : Addr) | ty (n : String)
  deriving DecidableEq
def RelV : V → Value → Prop
  | .non, u => u = Value.none
  | .bl b, u => u = Value.bool b
  | .int i, u => ∃ t, u = Value.int i t
  | .str x, u => ∃ t, u = Value.str x t
  | .byt b, u => ∃ t, u = Value.bytes b t
  | .flt b, u => ∃ t, u = Value.float b t
  | .ref a, u => u = Value.ref a
  | .ty n, u => u = Value.type n
abbrev Vals : List V → List Value → Prop := Paired RelV
theorem Vals.length {xs : List V} {us : List Value} (r : Vals xs us) : xs.length = us.length := Paired.length r
theorem Vals.get : ∀ {xs : List V} {us : List Value} {i : Nat} {x : V}, Vals xs us → xs[i]? = some x → ∃ u, us[i]? = some u ∧ RelV x u
  | _, _, _, _, .nil, e => by simp at e
  | _, _, 0, _, .cons r _, e => by simp at e; subst e; exact ⟨_, rfl, r⟩
  | _, _, i + 1, x, .cons _ t, e => by
    obtain ⟨u, h1, h2⟩ := Vals.get (i := i) (x := x) t (by simpa using e)
    exact ⟨u, by simpa using h1, h2⟩
theorem Vals.set {x : V} {u : Value} (r : RelV x u) : ∀ {xs : List V} {us : List Value} (i : Nat), Vals xs us → Vals (xs.set i x) (us.set i u)
  | _, _, _, .nil => .nil
  | _, _, 0, .cons _ t => .cons r t
  | _, _, i + 1, .cons q t => .cons q (Vals.set r i t)
theorem Vals.append : ∀ {xs ys : List V} {us ws : List Value}, Vals xs us → Vals ys ws → Vals (xs ++ ys) (us ++ ws)
  | _, _, _, _, .nil, s => s
  | _, _, _, _, .cons r t, s => .cons r (Vals.append t s)
theorem Vals.take : ∀ {xs : List V} {us : List Value} (n : Nat), Vals xs us → Vals (xs.take n) (us.take n)
  | _, _, 0, _ => .nil
  | _, _, _ + 1, .nil => .nil
  | _, _, n + 1, .cons r t => .cons r (Vals.take n t)
theorem Vals.drop : ∀ {xs : List V} {us : List Value} (n : Nat), Vals xs us → Vals (xs.drop n) (us.drop n)
  | _, _, 0, r => r
  | _, _, _ + 1, .nil => .nil
  | _, _, n + 1, .cons _ t => Vals.drop n t
def RelO : Option V → Option Value → Prop
  | some v, some u => RelV v u
  | none, none => True
  | _, _ => False
def KV {κ : Type} : List (κ × V) → List (κ × Value) → Prop := Paired fun (p : κ × V) (q : κ × Value) => p.1 = q.1 ∧ RelV p.2 q.2
def kV : Key → V
  | .inl i => .int i
  | .inr x => .str x
inductive HO where
    | lst (xs : List V)
    | tup (xs : List V)
    | dK (kvs : List (Key × V)) | dT (kvs : List (List Key × V))
    | set (S : Int → Bool) (n : Nat)
    | ins (C dx : Addr) (fs : List (Str × V))
    | own (x : Addr)
    | xd (fs : List (Str × V))
    | met (f x : Addr)
    | rng (lo hi : Int)
    | frz (o : Obj) (u : HO)
    | tbl (ps : Array Value)
    | ext (φ : Heap → Prop)
abbrev Hp := Addr → Option HO
def upd (H : Hp) (a : Addr) (o : HO) : Hp := fun b => if b = a then some o else H b
theorem upd_same {H : Hp} {a : Addr} {o : HO} : upd H a o a = some o := by unfold upd; rw [if_pos rfl]
theorem upd_ne {H : Hp} {a b : Addr} {o : HO} (h : b ≠ a) : upd H a o b = H b := by unfold upd; rw [if_neg h]
theorem ne_of {H : Hp} {a b : Addr} {o u : HO} (h : H a = some o) (h' : H b = some u) (d : o ≠ u) : a ≠ b := by
  intro e; subst e; rw [h] at h'; exact d (Option.some.inj h')
theorem ne_of_none {H : Hp} {a b : Addr} {o : HO} (h : H a = some o) (h' : H b = none) : a ≠ b := by
  intro e; subst e; rw [h] at h'; cases h'
theorem new_bare {h : Heap} {o : Obj} (hf : o.isFreed = false := by rfl) (hd : o.dict = none := by rfl) : ∀ ob, (h.push o).get? h.objs.size = some ob → ob.dict = none := fun ob e => by
  rw [Heap.get?_push_size h hf] at e; cases e; exact hd
section
variable (P : Program) (w : World)
def ObjOk (H : Hp) (h : Heap) (a : Addr) : HO → Prop
  | .lst xs => xs.length ≤ sizeLine ∧ ∃ (its : List Value) (n : Nat), Vals xs its ∧ h.get? a = some { cls := .type "list", data := .seq its.toArray n }
  | .tup xs => (xs.length ≤ sizeLine ∧ ∀ ob, h.get? a = some ob → ob.dict = none) ∧ ∃ its : List Value, Vals xs its ∧ IsTup h a its.toArray
  | .dK kvs => kvs.length ≤ sizeLine ∧ (a == sysModules) = false ∧ ∃ vs, KV kvs vs ∧ h.DictOf (mixKind P w) a vs
  | .dT kvs => kvs.length ≤ sizeLine ∧ (a == sysModules) = false ∧ ∃ xs : List (List Key × Addr × Value),
      Paired (fun (p : List Key × V) (q : List Key × Addr × Value) => p.1 = q.1 ∧ H q.2.1 = some (.tup (p.1.map kV)) ∧ RelV p.2 q.2.2) kvs xs ∧
      ∃ o es ep, h.get? a = some o ∧ o.ExactDict ∧ o.data = .dict es ep ∧ es.toList = xs.map (entryOfKey (tupleKind (mixKind P w))) ∧ (xs.map (·.1)).Nodup
  | .set S n => h.SetOf (intKind P w) a S n
  | .ins C dx fs => H dx = some (.own a) ∧ fs.length ≤ 1000 ∧ dx ≠ a ∧ h.get? a = some (PySem.W.instObj C dx) ∧
      ∃ mA, h.Ns1 dx mA ∧ (∀ f, RelO (fs.lookup f) (mA f)) ∧ PySem.Within mA (fs.map (·.1))
  | .own _ => ∃ o, h.get? a = some o
  | .xd fs => ∃ mA, h.Ns1 a mA ∧ ∀ f, RelO (fs.lookup f) (mA f)
  | .rng lo hi => ∃ t u v, h.get? a = some { cls := .type "range", data := .fields #[.int lo t, .int hi u, .int 1 v] }
  | .frz o u => h.get? a = some o ∧ ObjOk H h a u
  | .tbl ps => h.get? a = some { cls := .none, data := .fields ps }
  | .met f x => h.get? a = some (PySem.W.methodObj (.ref f) (.ref x))
  | .ext φ => φ h ∧ (∃ o, h.get? a = some o) ∧ ∀ h1 h2 : Heap, φ h1 → (∀ o, h1.get? a = some o → h2.get? a = some o) → φ h2
def HOk (H : Hp) (h : Heap) : Prop := ∀ a o, H a = some o → ObjOk P w H h a o
end
section
variable {P : Program} {w : World} {H H' : Hp} {h h' : Heap} {a : Addr} {o : HO}
theorem ObjOk.lt (x : ObjOk P w H h a o) : a < h.objs.size := by
  cases o with
  | lst xs => obtain ⟨_, _, _, _, e⟩ := x; exact Heap.lt_size e
  | tup xs => obtain ⟨_, _, _, p⟩ := x; exact p.lt
  | dK kvs => obtain ⟨_, _, _, _, o, _, _, e, _⟩ := x; exact Heap.lt_size e
  | dT kvs => obtain ⟨_, _, _, _, o, _, _, e, _⟩ := x; exact Heap.lt_size e
  | set S n => obtain ⟨o, _, _, _, e, _⟩ := x; exact Heap.lt_size e
  | ins C dx fs => obtain ⟨_, _, _, e, _⟩ := x; exact Heap.lt_size e
  | own y => obtain ⟨_, e⟩ := x; exact Heap.lt_size e
  | xd fs => obtain ⟨_, ⟨_, _, _, e, _⟩, _⟩ := x; exact Heap.lt_size e
  | rng lo hi => obtain ⟨_, _, _, e⟩ := x; exact Heap.lt_size e
  | frz ob u => obtain ⟨e, _⟩ := x; exact Heap.lt_size e
  | tbl ps => exact Heap.lt_size (show h.get? a = some _ from x)
  | met f y => exact Heap.lt_size (show h.get? a = some _ from x)
  | ext φ => obtain ⟨_, ⟨_, e⟩, _⟩ := x; exact Heap.lt_size e
theorem Paired.mapP {α β : Type} {F G : α → β → Prop} : ∀ {l₁ : List α} {l₂ : List β}, Paired F l₁ l₂ → (∀ a b, F a b → G a b) → Paired G l₁ l₂
  | _, _, .nil, _ => .nil
  | _, _, .cons r t, f => .cons (f _ _ r) (Paired.mapP t f)
theorem ObjOk.stay (x : ObjOk P w H h a o) (k : ∀ b u, (b = a ∨ H b = some (.own a)) → h.get? b = some u → h'.get? b = some u)
    (ho : ∀ b, H b = some (.own a) → H' b = some (.own a)) (ht : ∀ b xs, H b = some (.tup xs) → H' b = some (.tup xs)) : ObjOk P w H' h' a o := by
  induction o with
  | lst xs => obtain ⟨z, its, n, r, e⟩ := x; exact ⟨z, its, n, r, k _ _ (.inl rfl) e⟩
  | tup xs => obtain ⟨z, its, r, ob, e, c⟩ := x; exact ⟨⟨z.1, fun ob' e' => by rw [k _ _ (.inl rfl) e] at e'; cases e'; exact z.2 _ e⟩, its, r, ob, k _ _ (.inl rfl) e, c⟩
  | dK kvs => obtain ⟨z, y, vs, r, ob, es, ep, e, c⟩ := x; exact ⟨z, y, vs, r, ob, es, ep, k _ _ (.inl rfl) e, c⟩
  | dT kvs =>
    obtain ⟨z, y, xs, r, ob, es, ep, e, c⟩ := x
    exact ⟨z, y, xs, Paired.mapP r fun p q z => ⟨z.1, ht _ _ z.2.1, z.2.2⟩, ob, es, ep, k _ _ (.inl rfl) e, c⟩
  | set S n => obtain ⟨ob, es, ep, t, e, c⟩ := x; exact ⟨ob, es, ep, t, k _ _ (.inl rfl) e, c⟩
  | ins C dx fs =>
    obtain ⟨d, z, ne, e, mA, ⟨od, es, ep, e2, c⟩, r⟩ := x
    exact ⟨ho _ d, z, ne, k _ _ (.inl rfl) e, mA, ⟨od, es, ep, k _ _ (.inr d) e2, c⟩, r⟩
  | own y => obtain ⟨ob, e⟩ := x; exact ⟨ob, k _ _ (.inl rfl) e⟩
  | xd fs => obtain ⟨mA, ⟨od, es, ep, e, c⟩, r⟩ := x; exact ⟨mA, ⟨od, es, ep, k _ _ (.inl rfl) e, c⟩, r⟩
  | rng lo hi => obtain ⟨t, u, v, e⟩ := x; exact ⟨t, u, v, k _ _ (.inl rfl) e⟩
  | frz ob u ih => obtain ⟨e, q⟩ := x; exact ⟨k _ _ (.inl rfl) e, ih q⟩
  | tbl ps =>
    have e : h.get? a = some { cls := .none, data := .fields ps } := x
    show h'.get? a = some { cls := .none, data := .fields ps }
    exact k a _ (.inl rfl) e
  | met f y =>
    have e : h.get? a = some (PySem.W.methodObj (.ref f) (.ref y)) := x
    show h'.get? a = some (PySem.W.methodObj (.ref f) (.ref y))
    exact k a _ (.inl rfl) e
  | ext φ => obtain ⟨p, ⟨o, e⟩, st⟩ := x; exact ⟨st _ _ p fun o q => k _ _ (.inl rfl) q, ⟨o, k _ _ (.inl rfl) e⟩, st⟩
theorem HOk.lt (x : HOk P w H h) (e : H a = some o) : a < h.objs.size := (x a o e).lt
theorem HOk.fresh (x : HOk P w H h) (e : h.objs.size ≤ a) : H a = none := by
  cases q : H a with
  | none => rfl
  | some u => exact absurd (Nat.lt_of_lt_of_le (x.lt q) e) (Nat.lt_irrefl _)
theorem HOk.kept (x : HOk P w H h) (k : ∀ b u, h.get? b = some u → h'.get? b = some u) : HOk P w H h' := fun a o e =>
  (x a o e).stay (fun b u _ q => k b u q) (fun _ q => q) fun _ _ q => q
theorem HOk.laid (x : HOk P w H h) (k : ∀ b u, h.get? b = some u → h'.get? b = some u) (hp : h.objs.size ≤ a) (new : ObjOk P w (upd H a o) h' a o) : HOk P w (upd H a o) h' := fun b u e => by
  have hn := x.fresh hp
  by_cases hb : b = a
  · subst hb; rw [upd_same] at e; cases e; exact new
  · rw [upd_ne hb] at e
    exact (x b u e).stay (fun c v _ q => k c v q) (fun c q => by rw [upd_ne (ne_of_none q hn)]; exact q) fun c xs q => by rw [upd_ne (ne_of_none q hn)]; exact q
end
def Rd (H : Hp) (a : Addr) (u : HO) : Prop := H a = some u ∨ ∃ o, H a = some (.frz o u)
theorem Rd.ok {P : Program} {w : World} {H : Hp} {h : Heap} {a : Addr} {u : HO} (r : Rd H a u) (x : HOk P w H h) : ObjOk P w H h a u := by
  rcases r with r | ⟨o, r⟩
  · exact x a u r
  · obtain ⟨_, q⟩ := x a _ r
    exact q
def Mut : Option HO → Prop
  | some (.lst _) => True
  | some (.dK _) => True
  | some (.dT _) => True
  | some (.set _ _) => True
  | some (.ins _ _ _) => True
  | some (.ext _) => True
  | _ => False
section
variable {P : Program} {w : World} {H : Hp} {h h' : Heap} {x e : Addr} {o' : HO}
theorem HOk.write (ok : HOk P w H h) (mu : Mut (H x)) (he : e = x ∨ H e = some (.own x)) (k : ∀ b u, b ≠ e → h.get? b = some u → h'.get? b = some u) (heo : ∃ u, h'.get? e = some u)
    (new : ObjOk P w (upd H x o') h' x o') : HOk P w (upd H x o') h' := fun b u q => by
  have nown : ∀ c y, H c = some (.own y) → c ≠ x := fun c y r z => by subst z; rw [r] at mu; exact mu
  have ntup : ∀ c xs, H c = some (.tup xs) → c ≠ x := fun c xs r z => by subst z; rw [r] at mu; exact mu
  by_cases hb : b = x
  · subst hb; rw [upd_same] at q; cases q; exact new
  · rw [upd_ne hb] at q
    by_cases hbe : b = e
    · have q' : H b = some (.own x) := by
        rcases he with z | z
        · exact absurd (hbe.trans z) hb
        · rw [hbe]; exact z
      rw [q] at q'; cases q'
      obtain ⟨v, hv⟩ := heo
      exact ⟨v, by rw [hbe]; exact hv⟩
    · refine (ok b u q).stay (fun c v hc r => k c v ?_ r) (fun c r => by rw [upd_ne (nown c b r)]; exact r) fun c xs r => by rw [upd_ne (ntup c xs r)]; exact r
      rcases hc with rfl | hc
      · exact hbe
      · rintro rfl
        rcases he with z | z
        · exact nown c b hc z
        · rw [hc] at z; cases z; exact hb rfl
end
structure Un (fs ex : List Addr) (H H' : Hp) (h h' : Heap) : Prop where
  keep : ∀ b o, h.get? b = some o → H b = none → b ∉ fs → b ∉ ex → h'.get? b = some o
  slot : ∀ b o, h.get? b = some o → H b = none → b ∈ fs → b ∉ ex → ∃ sl, h'.get? b = some { o with slots := sl }
  free : ∀ b o, h.get? b = some o → H b = none → b ∉ ex → H' b = none
  there : ∀ b o, h.get? b = some o → b ∉ ex → ∃ o', h'.get? b = some o'
  tups : ∀ b xs, H b = some (.tup xs) → H' b = some (.tup xs)
  frzs : ∀ b o u, H b = some (.frz o u) → H' b = some (.frz o u)
  tbls : ∀ b ps, H b = some (.tbl ps) → ∃ more, H' b = some (.tbl (ps ++ more))
section
variable {fs fs' ex ex' : List Addr} {H H1 H2 : Hp} {h h1 h2 h' : Heap} {a x e : Addr} {o : HO}
theorem Un.any (u : Un fs ex H H1 h h1) {b : Addr} {ob : Obj} (q : h.get? b = some ob) (n : H b = none) (hx : b ∉ ex) : ∃ sl, h1.get? b = some { ob with slots := sl } := by
  by_cases hb : b ∈ fs
  · exact u.slot b ob q n hb hx
  · exact ⟨ob.slots, u.keep b ob q n hb hx⟩
theorem Un.kept (k : ∀ b u, h.get? b = some u → h'.get? b = some u) : Un fs ex H H h h' :=
  ⟨fun b ob q _ _ _ => k b ob q, fun b ob q _ _ _ => ⟨ob.slots, k b ob q⟩, fun _ _ _ n _ => n, fun b ob q _ => ⟨ob, k b ob q⟩, fun _ _ q => q, fun _ _ _ q => q, fun _ ps q => ⟨#[], by rw [q]; simp⟩⟩
theorem Un.refl : Un fs ex H H h h := Un.kept fun _ _ q => q
theorem Un.laid (k : ∀ b u, h.get? b = some u → h'.get? b = some u) (hp : h.objs.size ≤ a) (hn : H a = none) : Un fs ex H (upd H a o) h h' where
  keep := fun b u q _ _ _ => k b u q
  slot := fun b u q _ _ _ => ⟨u.slots, k b u q⟩
  free := fun b u q n _ => by rw [upd_ne (Nat.ne_of_lt (Nat.lt_of_lt_of_le (Heap.lt_size q) hp))]; exact n
  there := fun b u q _ => ⟨u, k b u q⟩
  tups := fun b xs q => by rw [upd_ne (ne_of_none q hn)]; exact q
  frzs := fun b u xs q => by rw [upd_ne (ne_of_none q hn)]; exact q
  tbls := fun b ps q => ⟨#[], by rw [upd_ne (ne_of_none q hn), q]; simp⟩
theorem Un.write (mu : Mut (H x)) (he : e = x ∨ H e = some (.own x)) (k : ∀ b u, b ≠ e → h.get? b = some u → h'.get? b = some u) (heo : ∃ u, h'.get? e = some u) : Un fs ex H (upd H x o) h h' := by
  have hx : ∀ b, H b = none → b ≠ x := fun b n z => by subst z; rw [n] at mu; exact mu
  have hb : ∀ b, H b = none → b ≠ e := fun b n z => by
    subst z
    rcases he with r | r
    · exact hx b n r
    · rw [n] at r; cases r
  have hm : ∀ b u, H b = some u → ¬ Mut (some u) → b ≠ x := fun b u q nm z => by subst z; rw [q] at mu; exact nm mu
  refine ⟨fun b u q n _ _ => k b u (hb b n) q, fun b u q n _ _ => ⟨u.slots, k b u (hb b n) q⟩, fun b u q n _ => by rw [upd_ne (hx b n)]; exact n, fun b u q _ => ?_,
    fun b xs q => by rw [upd_ne (hm b _ q fun z => z)]; exact q, fun b u xs q => by rw [upd_ne (hm b _ q fun z => z)]; exact q, fun b ps q => ⟨#[], by rw [upd_ne (hm b _ q fun z => z), q]; simp⟩⟩
  by_cases hbe : b = e
  · subst hbe; exact heo
  · exact ⟨u, k b u hbe q⟩
end
def trk (h : Heap) (H : Hp) : List Addr := (List.range h.objs.size).filter fun a => (H a).isSome
def hidT (h : Heap) (H : Hp) : Heap := PySem.W.hideAll h (trk h H)
theorem hidT_size (h : Heap) (H : Hp) : (hidT h H).objs.size = h.objs.size := PySem.W.hideAll_size _ _
theorem hidT_get {h : Heap} {H : Hp} {b : Addr} {o : Obj} (e : h.get? b = some o) (n : H b = none) : (hidT h H).get? b = some o :=
  PySem.W.hideAll_get _ e fun hm => by
    have q : (H b).isSome = true := (List.mem_filter.mp hm).2
    rw [n] at q; simp at q
theorem of_hidT {h : Heap} {H : Hp} {b : Addr} {o : Obj} (e : (hidT h H).get? b = some o) : h.get? b = some o ∧ H b = none := by
  have e' : h.get? b = some o := PySem.W.of_hideAll (trk h H) e
  refine ⟨e', ?_⟩
  cases q : H b with
  | none => rfl
  | some x =>
    have hm : b ∈ trk h H := List.mem_filter.mpr ⟨List.mem_range.mpr (Heap.lt_size e'), by simp [q]⟩
    have z : (hidT h H).get? b = none := PySem.W.hideAll_none (trk h H) hm
    rw [z] at e; cases e
def allNews (g h : Heap) (L : Addr) : List (Addr × Obj) := (List.range h.objs.size).filterMap fun a => if a = L ∨ (g.get? a).isSome = true then none else (h.get? a).map fun o => (a, o)
theorem mem_allNews {g h : Heap} {L a : Addr} {o : Obj} (h1 : a ≠ L) (h2 : g.get? a = none) (h3 : h.get? a = some o) : (a, o) ∈ allNews g h L :=
  List.mem_filterMap.mpr ⟨a, List.mem_range.mpr (Heap.lt_size h3), by simp [h1, h2, h3]⟩
theorem of_mem_allNews {g h : Heap} {L : Addr} {p : Addr × Obj} (hp : p ∈ allNews g h L) : p.1 ≠ L ∧ g.get? p.1 = none ∧ h.get? p.1 = some p.2 := by
  obtain ⟨b, _, e⟩ := List.mem_filterMap.mp hp
  split at e
  · cases e
  · rename_i hn
    cases q : h.get? b with
    | none => rw [q] at e; simp at e
    | some u =>
      rw [q] at e
      simp only [Option.map_some, Option.some.injEq] at e
      subst e
      refine ⟨fun z => hn (.inl z), ?_, q⟩
      show g.get? b = none
      cases r : g.get? b with
      | none => rfl
      | some v => exact (hn (.inr (by simp [r]))).elim
theorem news_all {g h : Heap} {L : Addr} : News g L h (allNews g h L) := fun p hp => let ⟨a, b, c⟩ := of_mem_allNews hp; ⟨c, a, b⟩
end L2
namespace L2
open PySem PySem.Spec PyProof.Rows
structure Mod (K : PySem.W.Frag) (mg : Str → Option Value) (base : Heap) : Prop where
  kin : K.In base
  glob : base.Ns mainGlobals mg
  blt : ∃ mb, base.Ns builtinsNs mb ∧ ∀ x : Str, x ≠ "__name__" → mb x = bootBuiltins x
  nolimit : base.NoLimit
structure Cx where
  prog : Program
  w : World
  K : PySem.W.Frag
  mg : Str → Option Value
  base : Heap
  A : Around
  N : List Str
  s₀ : Shared
  H₀ : Hp
  env : Env
  outer : List Env
  stack : List Env
  ex : List Addr
  fn : Str → Bool
  calm : Bool
  pn : List (Addr × Obj)
  xe : Value → Shared → Prop
def frs (l : List Env) : List Addr := l.filterMap (·.frame)
abbrev Cx.fs (X : Cx) : List Addr := frs X.outer
def Vis (sc : Scope) (x : Str) : Prop := sc.names.lookup x = some .local ∨ sc.names.lookup x = some .cell ∨ sc.names.lookup x = some .free
def Loc (sc : Scope) (x : Str) : Prop := sc.names.lookup x = some .local ∨ sc.names.lookup x = some .cell
def Look (env : Env) (h : Heap) (m : Str → Option Value) (x : Str) (u : Value) : Prop :=
  (env.kindOf x = some .local ∧ m x = some u) ∨ ((env.kindOf x = some .cell ∨ env.kindOf x = some .free) ∧ ∃ c, env.cells.lookup x = some c ∧ h.IsCell c (some u))
structure Cx.Ok (X : Cx) : Prop where
  mod : Mod X.K X.mg X.base
  kind : X.env.scope.kind = .function
  glob : X.env.globals = mainGlobals
  blt : X.env.builtins = builtinsNs
  above : X.s₀.heap.objs.size ≤ X.env.locals
  inj : ∀ x y c, X.env.cells.lookup x = some c → X.env.cells.lookup y = some c → x = y
  has : ∀ x, (X.env.kindOf x = some .cell ∨ X.env.kindOf x = some .free) → ∃ c, X.env.cells.lookup x = some c
  cab : ∀ x c, X.fn x = true → X.env.cells.lookup x = some c → X.s₀.heap.objs.size ≤ c
  hd : X.calm = true → X.A.handled = none
  frames : X.A.frames = some X.stack
  stk : X.stack = X.outer ∨ (X.stack = X.env :: X.outer ∧ X.env.frame = some X.env.locals)
  exf : ∀ b ∈ X.ex, b ≠ X.env.locals ∧ ∀ x c, X.env.cells.lookup x = some c → c ≠ b
  bs : ∀ b o, X.base.get? b = some o → X.s₀.heap.get? b = some o ∧ X.H₀ b = none
  bsz : X.base.objs.size ≤ X.s₀.heap.objs.size
  noex : ∀ b o, X.base.get? b = some o → b ∉ X.ex
  exfs : ∀ b ∈ X.ex, b ∉ X.fs
  funs : X.s₀.heap.FunFrames X.base X.outer
  frf : ∀ b ∈ X.fs, X.H₀ b = none
structure Inv (X : Cx) (pins : List (Addr × Obj)) (σ : List (Option V)) (H : Hp) (s : Shared) : Prop where
  ok : X.Ok
  os : s.os = X.s₀.os
  bare : AllBare s.gens
  base : Un X.fs X.ex X.H₀ H X.s₀.heap s.heap
  loc : ∃ m, s.heap.Ns X.env.locals m ∧ ∀ (i : Nat) (x : Str) (v : V), X.N[i]? = some x → σ[i]? = some (some v) → Vis X.env.scope x → ∃ u, RelV v u ∧ Look X.env s.heap m x u
  cell : ∀ x c, X.env.cells.lookup x = some c → ∃ v, s.heap.IsCell c v
  free : H X.env.locals = none
  freeC : ∀ x c, X.env.cells.lookup x = some c → H c = none
  pin : ∀ p ∈ X.pn ++ pins, s.heap.get? p.1 = some p.2 ∧ H p.1 = none ∧ p.1 ≠ X.env.locals ∧ p.1 ∉ X.fs ∧ ∀ v, p.2.data ≠ .cell v
  hok : HOk X.prog X.w H s.heap
  len : σ.length = X.N.length
section
variable {X : Cx} {pins : List (Addr × Obj)} {σ : List (Option V)} {H H' : Hp} {s : Shared} {h' : Heap}
theorem Cx.Ok.nofr (ok : X.Ok) {b : Addr} {o : Obj} (e : X.base.get? b = some o) : b ∉ X.fs := fun hb => by
  have := (ok.funs.mem hb).1
  rw [e] at this; cases this
theorem Inv.bs (I : Inv X pins σ H s) : ∀ b o, X.base.get? b = some o → s.heap.get? b = some o ∧ H b = none := fun b o e =>
  ⟨I.base.keep b o (I.ok.bs b o e).1 (I.ok.bs b o e).2 (I.ok.nofr e) (I.ok.noex b o e), I.base.free b o (I.ok.bs b o e).1 (I.ok.bs b o e).2 (I.ok.noex b o e)⟩
theorem Inv.bk (I : Inv X pins σ H s) : ∀ b o, X.base.get? b = some o → s.heap.get? b = some o := fun b o e => (I.bs b o e).1
theorem Inv.mod (I : Inv X pins σ H s) : Mod X.K X.mg X.base := I.ok.mod
theorem Inv.kIn (I : Inv X pins σ H s) : X.K.In s.heap := I.ok.mod.kin.keeps I.bk
theorem Inv.fr (I : Inv X pins σ H s) : ∃ m, Fr X.base X.env.locals s.heap m :=
  let ⟨m, hn, _⟩ := I.loc
  ⟨m, hn, I.bk, Nat.le_trans I.ok.bsz I.ok.above⟩
theorem Inv.lt (I : Inv X pins σ H s) : X.env.locals < s.heap.objs.size := let ⟨_, hn, _⟩ := I.loc; hn.lt
theorem Inv.sz (I : Inv X pins σ H s) : X.s₀.heap.objs.size ≤ s.heap.objs.size := Nat.le_trans I.ok.above (Nat.le_of_lt I.lt)
theorem Inv.nofs (I : Inv X pins σ H s) {a : Addr} (h : s.heap.objs.size ≤ a) : a ∉ X.fs := fun hb => by
  obtain ⟨_, o, ho, _⟩ := I.ok.funs.mem hb
  exact absurd (Nat.lt_of_lt_of_le (Heap.lt_size ho) (Nat.le_trans I.sz h)) (Nat.lt_irrefl _)
theorem Inv.cne (I : Inv X pins σ H s) : ∀ x c, X.env.cells.lookup x = some c → c ≠ X.env.locals := fun x c e z => by
  obtain ⟨v, o, ho, hd⟩ := I.cell x c e
  obtain ⟨m, ⟨o', es, ep, ho', hd', _⟩, _⟩ := I.loc
  rw [z, ho'] at ho; cases ho; rw [hd'] at hd; cases hd
theorem Inv.funs (I : Inv X pins σ H s) : s.heap.FunFrames X.base X.outer := by
  have all : ∀ (l : List Env), (∀ b ∈ frs l, b ∈ X.fs) → X.s₀.heap.FunFrames X.base l → s.heap.FunFrames X.base l := by
    intro l
    induction l with
    | nil => intro _ _; trivial
    | cons env r ih =>
      intro hs hl
      obtain ⟨hk, ⟨L, o, hf, hn, ho, hd⟩, hr⟩ := hl
      have hL : L ∈ X.fs := hs L (by unfold frs; rw [List.filterMap_cons, hf]; exact List.mem_cons_self)
      obtain ⟨sl, e⟩ := I.base.slot L o ho (I.ok.frf L hL) hL fun z => I.ok.exfs L z hL
      exact ⟨hk, ⟨L, _, hf, hn, e, hd⟩, ih (fun b hb => hs b (by unfold frs; rw [List.filterMap_cons, hf]; exact List.mem_cons_of_mem _ hb)) hr⟩
  exact all X.outer (fun _ hb => hb) I.ok.funs
theorem Inv.stack (I : Inv X pins σ H s) : s.heap.FunFrames X.base X.stack := by
  rcases I.ok.stk with e | ⟨e, hf⟩
  · rw [e]; exact I.funs
  · rw [e]
    obtain ⟨m, hn, _⟩ := I.loc
    refine .cons (by rw [I.ok.kind]; decide) hf hn ?_ I.funs
    exact Heap.get?_none_of_le (Nat.le_trans I.ok.bsz I.ok.above)
theorem Inv.stkSub (I : Inv X pins σ H s) : ∀ b ∈ frs X.stack, b ∈ X.env.locals :: X.fs := fun b hb => by
  rcases I.ok.stk with e | ⟨e, hf⟩
  · rw [e] at hb; exact List.mem_cons_of_mem _ hb
  · rw [e] at hb
    unfold frs at hb
    rw [List.filterMap_cons, hf] at hb
    exact hb
theorem Inv.stkFree (I : Inv X pins σ H s) : ∀ b ∈ frs X.stack, H b = none := fun b hb => by
  rcases List.mem_cons.mp (I.stkSub b hb) with e | hb
  · rw [e]; exact I.free
  · obtain ⟨_, o, ho, _⟩ := I.ok.funs.mem hb
    exact I.base.free b o ho (I.ok.frf b hb) fun z => I.ok.exfs b z hb
theorem Inv.step {g' : Array GenState} {t' : Nat} {d' : Drawn} {ch : List Addr} (I : Inv X pins σ H s)
    (hch : ∀ b ∈ ch, (b ∈ X.ex ∨ X.s₀.heap.objs.size ≤ b) ∧ b ≠ X.env.locals ∧ (∀ x c, X.env.cells.lookup x = some c → c ≠ b) ∧ ∀ p ∈ X.pn ++ pins, p.1 ≠ b)
    (keep : ∀ b o, b ≠ X.env.locals → b ∉ X.fs → b ∉ ch → s.heap.get? b = some o → H b = none → h'.get? b = some o)
    (slot : ∀ b o, b ≠ X.env.locals → b ∈ X.fs → b ∉ ch → s.heap.get? b = some o → H b = none → ∃ sl, h'.get? b = some { o with slots := sl }) (free : ∀ b o, b ∉ ch → s.heap.get? b = some o → H b = none → H' b = none)
    (there : ∀ b o, b ∉ ch → s.heap.get? b = some o → ∃ o', h'.get? b = some o')
    (tups : ∀ b xs, H b = some (.tup xs) → H' b = some (.tup xs)) (frzs : ∀ b o u, H b = some (.frz o u) → H' b = some (.frz o u)) (tbls : ∀ b ps, H b = some (.tbl ps) → ∃ more, H' b = some (.tbl (ps ++ more)))
    (ns : ∀ m, s.heap.Ns X.env.locals m → h'.Ns X.env.locals m) (hok : HOk X.prog X.w H' h') (hg : AllBare g') :
    Inv X pins σ H' { s with heap := h', gens := g', drawn := d', toks := t' } := by
  have neL : ∀ b o, X.s₀.heap.get? b = some o → b ≠ X.env.locals := fun b o e => Nat.ne_of_lt (Nat.lt_of_lt_of_le (Heap.lt_size e) I.ok.above)
  have neC : ∀ b o, X.s₀.heap.get? b = some o → b ∉ X.ex → b ∉ ch := fun b o e hx hb => by
    rcases (hch b hb).1 with z | z
    · exact hx z
    · exact absurd (Nat.lt_of_lt_of_le (Heap.lt_size e) z) (Nat.lt_irrefl _)
  have cellK : ∀ x c, X.env.cells.lookup x = some c → ∀ v, s.heap.IsCell c v → h'.IsCell c v := fun x c e v ⟨o, ho, hd⟩ => by
    have nch : c ∉ ch := fun z => (hch c z).2.2.1 x c e rfl
    by_cases hc : c ∈ X.fs
    · obtain ⟨sl, q⟩ := slot c o (I.cne x c e) hc nch ho (I.freeC x c e)
      exact ⟨_, q, hd⟩
    · exact ⟨o, keep c o (I.cne x c e) hc nch ho (I.freeC x c e), hd⟩
  refine ⟨I.ok, I.os, hg, ⟨fun b o e n hb hx => ?_, fun b o e n hb hx => ?_, fun b o e n hx => ?_, fun b o e hx => ?_, fun b xs e => tups b xs (I.base.tups b xs e), fun b o xs e => frzs b o xs (I.base.frzs b o xs e), fun b ps e => ?_⟩, ?_, fun x c e => ?_, ?_, fun x c e => ?_, fun p hp => ?_, hok, I.len⟩
  · exact keep b o (neL b o e) hb (neC b o e hx) (I.base.keep b o e n hb hx) (I.base.free b o e n hx)
  · obtain ⟨sl, e1⟩ := I.base.slot b o e n hb hx
    obtain ⟨sl', e2⟩ := slot b _ (neL b o e) hb (neC b o e hx) e1 (I.base.free b o e n hx)
    exact ⟨sl', e2⟩
  · obtain ⟨o', e1⟩ := I.base.there b o e hx
    exact free b o' (neC b o e hx) e1 (I.base.free b o e n hx)
  · obtain ⟨o', e1⟩ := I.base.there b o e hx
    exact there b o' (neC b o e hx) e1
  · obtain ⟨m1, e1⟩ := I.base.tbls b ps e
    obtain ⟨m2, e2⟩ := tbls b _ e1
    exact ⟨m1 ++ m2, by rw [e2, Array.append_assoc]⟩
  · obtain ⟨m, hn, hl⟩ := I.loc
    refine ⟨m, ns m hn, fun i x v e1 e2 e3 => ?_⟩
    obtain ⟨u, r, l⟩ := hl i x v e1 e2 e3
    refine ⟨u, r, ?_⟩
    rcases l with l | ⟨k, c, e, z⟩
    · exact .inl l
    · exact .inr ⟨k, c, e, cellK x c e _ z⟩
  · obtain ⟨v, z⟩ := I.cell x c e
    exact ⟨v, cellK x c e v z⟩
  · obtain ⟨m, ⟨o, _, _, ho, _⟩, _⟩ := I.loc
    exact free _ o (fun z => (hch _ z).2.1 rfl) ho I.free
  · obtain ⟨v, o, ho, hd⟩ := I.cell x c e
    exact free c o (fun z => (hch c z).2.2.1 x c e rfl) ho (I.freeC x c e)
  · obtain ⟨e, n, ne, nf, d⟩ := I.pin p hp
    have nch : p.1 ∉ ch := fun z => (hch p.1 z).2.2.2 p hp rfl
    exact ⟨keep p.1 p.2 ne nf nch e n, free p.1 p.2 nch e n, ne, nf, d⟩
theorem Inv.un {t' : Nat} (I : Inv X pins σ H s) (u : Un X.fs [] H H' s.heap h') (hok : HOk X.prog X.w H' h') : Inv X pins σ H' { s with heap := h', toks := t' } := by
  obtain ⟨m, ⟨o, es, ep, ho, r⟩, _⟩ := id I.loc
  obtain ⟨sl, hL⟩ := u.any ho I.free (by simp)
  exact I.step (g' := s.gens) (d' := s.drawn) (ch := []) (fun _ z => nomatch z) (fun b o _ hb _ e n => u.keep b o e n hb (by simp)) (fun b o _ hb _ e n => u.slot b o e n hb (by simp)) (fun b o _ e n => u.free b o e n (by simp)) (fun b o _ e => u.there b o e (by simp)) u.tups u.frzs u.tbls (fun m' hm => by
    obtain ⟨o', es', ep', ho', r'⟩ := hm
    rw [ho] at ho'; cases ho'
    exact ⟨_, es', ep', hL, r'⟩) hok I.bare
theorem Inv.call {g' : Array GenState} {t' : Nat} {d' : Drawn} {ch : List Addr} (I : Inv X pins σ H s) (u : Un (frs X.stack) ch H H' s.heap h') (hok : HOk X.prog X.w H' h') (hg : AllBare g')
    (hch : ∀ b ∈ ch, (b ∈ X.ex ∨ X.s₀.heap.objs.size ≤ b) ∧ b ≠ X.env.locals ∧ (∀ x c, X.env.cells.lookup x = some c → c ≠ b) ∧ ∀ p ∈ X.pn ++ pins, p.1 ≠ b) :
    Inv X pins σ H' { s with heap := h', gens := g', drawn := d', toks := t' } := by
  obtain ⟨m, ⟨o, es, ep, ho, r⟩, _⟩ := id I.loc
  obtain ⟨sl, hL⟩ := u.any ho I.free fun z => (hch _ z).2.1 rfl
  exact I.step (ch := ch) hch (fun b o hL hb hc e n => u.keep b o e n (fun z => (List.mem_cons.mp (I.stkSub b z)).elim hL hb) hc) (fun b o _ _ hc e n => u.any e n hc) (fun b o hc e n => u.free b o e n hc) (fun b o hc e => u.there b o e hc) u.tups u.frzs u.tbls (fun m' hm => by
    obtain ⟨o', es', ep', ho', r'⟩ := hm
    rw [ho] at ho'; cases ho'
    exact ⟨_, es', ep', hL, r'⟩) hok hg
theorem Inv.turned {t' : Nat} {it : Addr} (I : Inv X pins σ H s) (k : ∀ b o, b ≠ it → s.heap.get? b = some o → h'.get? b = some o) (hn : H it = none) (hL : it ≠ X.env.locals)
    (h1 : it ∈ X.ex ∨ X.s₀.heap.objs.size ≤ it) (h2 : ∀ x c, X.env.cells.lookup x = some c → c ≠ it) (h3 : ∀ p ∈ X.pn ++ pins, p.1 ≠ it) : Inv X pins σ H { s with heap := h', toks := t' } := by
  have nit : ∀ b u, H b = some u → b ≠ it := fun b u e z => by rw [z, hn] at e; cases e
  refine I.step (g' := s.gens) (d' := s.drawn) (ch := [it]) (fun b hb => ?_) (fun b o _ _ hc e _ => k b o (fun z => hc (by simp [z])) e) (fun b o _ _ hc e _ => ⟨o.slots, k b o (fun z => hc (by simp [z])) e⟩) (fun _ _ _ _ n => n)
    (fun b o hc e => ⟨o, k b o (fun z => hc (by simp [z])) e⟩) (fun _ _ e => e) (fun _ _ _ e => e) (fun b ps e => ⟨#[], by rw [e]; simp⟩) (fun m hm => ?_) (fun b u e => ?_) I.bare
  · have e : b = it := by simpa using hb
    subst e
    exact ⟨h1, hL, h2, h3⟩
  · obtain ⟨o, es, ep, ho, r⟩ := hm
    exact ⟨o, es, ep, k _ o (Ne.symm hL) ho, r⟩
  · refine (I.hok b u e).stay (fun c v hc q => k c v ?_ q) (fun _ q => q) fun _ _ q => q
    rcases hc with z | z
    · rw [z]; exact nit b u e
    · exact nit c _ z
theorem Inv.tok (I : Inv X pins σ H s) (t : Nat) : Inv X pins σ H { s with toks := t } := I.un (h' := s.heap) (t' := t) Un.refl I.hok
theorem Inv.kept {t' : Nat} (I : Inv X pins σ H s) (k : ∀ b u, s.heap.get? b = some u → h'.get? b = some u) : Inv X pins σ H { s with heap := h', toks := t' } := I.un (Un.kept k) (I.hok.kept k)
theorem Inv.laid {a : Addr} {o : HO} {t' : Nat} (I : Inv X pins σ H s) (k : ∀ b u, s.heap.get? b = some u → h'.get? b = some u) (hp : s.heap.objs.size ≤ a) (new : ObjOk X.prog X.w (upd H a o) h' a o) :
    Inv X pins σ (upd H a o) { s with heap := h', toks := t' } := I.un (Un.laid k hp (I.hok.fresh hp)) (I.hok.laid k hp new)
theorem Inv.write {x e : Addr} {o : HO} {t' : Nat} (I : Inv X pins σ H s) (mu : Mut (H x)) (he : e = x ∨ H e = some (.own x)) (k : ∀ b u, b ≠ e → s.heap.get? b = some u → h'.get? b = some u) (heo : ∃ u, h'.get? e = some u)
    (new : ObjOk X.prog X.w (upd H x o) h' x o) : Inv X pins σ (upd H x o) { s with heap := h', toks := t' } := I.un (Un.write mu he k heo) (I.hok.write mu he k heo new)
theorem Inv.pins_of {pins' : List (Addr × Obj)} (I : Inv X pins σ H s) (h : ∀ p ∈ pins', s.heap.get? p.1 = some p.2 ∧ H p.1 = none ∧ p.1 ≠ X.env.locals ∧ p.1 ∉ X.fs ∧ ∀ v, p.2.data ≠ .cell v) : Inv X pins' σ H s :=
  ⟨I.ok, I.os, I.bare, I.base, I.loc, I.cell, I.free, I.freeC, fun p hp => (List.mem_append.mp hp).elim (fun z => I.pin p (List.mem_append_left _ z)) (h p), I.hok, I.len⟩
theorem nodup_ix {N : List Str} (hN : N.Nodup) {i j : Nat} {x : Str} (a : N[i]? = some x) (b : N[j]? = some x) : i = j := by
  obtain ⟨h1, e1⟩ := List.getElem?_eq_some_iff.mp a
  obtain ⟨h2, e2⟩ := List.getElem?_eq_some_iff.mp b
  exact (List.getElem_inj hN).mp (e1.trans e2.symm)
theorem store_ok2 {M : Model} {A : Around} {E : Value → Shared → Prop} {i : Nat} {x : Str} {v : V} {u : Value} {Q : Unit → Shared → Prop} (I : Inv X pins σ H s) (hN : X.N.Nodup) (hi : X.N[i]? = some x) (hx : Loc X.env.scope x) (r : RelV v u)
    (h : ∀ s', Inv X pins (σ.set i (some v)) H s' → (∃ a, Heap.SameBut a s.heap s'.heap ∧ (a = X.env.locals ∨ X.env.cells.lookup x = some a)) → Q () s') (hf : X.fn x = true ∨ X.env.scope.names.lookup x = some .local := by first | exact .inl rfl | exact .inr rfl | assumption) : wpAny M A (storeName X.env x u) Q E s := by
  obtain ⟨m, hn, hl⟩ := id I.loc
  have hcls : (X.env.scope.kind == .class || (X.env.scope.kind == .module && X.env.locals != X.env.globals)) = false := by rw [I.ok.kind]; rfl
  have hiσ : i < σ.length := by rw [I.len]; exact (List.getElem?_eq_some_iff.mp hi).1
  have cne := I.cne
  have tracked : ∀ {a : Addr} {h' : Heap}, (∃ o, s.heap.get? a = some o ∧ H a = none) → Heap.SameBut a s.heap h' → HOk X.prog X.w H h' := fun {a h'} ha hs b ob e => by
    obtain ⟨_, _, hfree⟩ := ha
    refine (I.hok b ob e).stay (fun c w' hc q => (hs.2 c ?_).trans q) (fun _ q => q) fun _ _ q => q
    rintro rfl
    rcases hc with rfl | hc
    · rw [hfree] at e; cases e
    · rw [hfree] at hc; cases hc
  rcases hx with hk | hk
  · refine wpAny_storeName_local hk hn (fun h' hn' hs => ?_) hcls
    obtain ⟨oL, _, _, hoL, _⟩ := id hn
    refine h _ ⟨I.ok, I.os, I.bare, ⟨fun b o e n hb hx => ?_, fun b o e n hb hx => ?_, I.base.free, fun b o e hx => ?_, I.base.tups, I.base.frzs, I.base.tbls⟩, ⟨_, hn', fun j y v' e1 e2 e3 => ?_⟩, fun y c e => ?_, I.free, I.freeC, fun p hp => ?_, tracked ⟨oL, hoL, I.free⟩ hs, by simpa using I.len⟩ ⟨_, hs, .inl rfl⟩
    · exact (hs.2 b (Nat.ne_of_lt (Nat.lt_of_lt_of_le (Heap.lt_size e) I.ok.above))).trans (I.base.keep b o e n hb hx)
    · obtain ⟨sl, e1⟩ := I.base.slot b o e n hb hx
      exact ⟨sl, (hs.2 b (Nat.ne_of_lt (Nat.lt_of_lt_of_le (Heap.lt_size e) I.ok.above))).trans e1⟩
    · obtain ⟨o', e1⟩ := I.base.there b o e hx
      exact ⟨o', (hs.2 b (Nat.ne_of_lt (Nat.lt_of_lt_of_le (Heap.lt_size e) I.ok.above))).trans e1⟩
    · by_cases hj : j = i
      · subst hj
        rw [hi] at e1; cases e1
        rw [List.getElem?_set_self hiσ] at e2
        cases e2
        exact ⟨u, r, .inl ⟨hk, by simp⟩⟩
      · rw [List.getElem?_set_ne (Ne.symm hj)] at e2
        obtain ⟨u', r', q⟩ := hl j y v' e1 e2 e3
        refine ⟨u', r', ?_⟩
        rcases q with ⟨k, e⟩ | ⟨k, c, e, z⟩
        · refine .inl ⟨k, ?_⟩
          have : y ≠ x := fun e => hj (nodup_ix hN e1 (e ▸ hi))
          simp [this, e]
        · exact .inr ⟨k, c, e, z.sameBut hs (cne y c e)⟩
    · obtain ⟨w', z⟩ := I.cell y c e
      exact ⟨w', z.sameBut hs (cne y c e)⟩
    · obtain ⟨e, n, ne, nf, d⟩ := I.pin p hp
      exact ⟨(hs.2 p.1 ne).trans e, n, ne, nf, d⟩
  · have hfn : X.fn x = true := by
      rcases hf with z | z
      · exact z
      · rw [z] at hk; cases hk
    obtain ⟨c, hc⟩ := I.ok.has x (.inl hk)
    obtain ⟨w', z⟩ := I.cell x c hc
    refine wpAny_storeName_cell I.ok.kind hk hc z (fun h' hc' hs => ?_)
    obtain ⟨oc, hoc, hocd⟩ := id z
    refine h { s with heap := h' } ⟨I.ok, I.os, I.bare, ⟨fun b o e n hb hx => ?_, fun b o e n hb hx => ?_, I.base.free, fun b o e hx => ?_, I.base.tups, I.base.frzs, I.base.tbls⟩, ⟨m, hn.sameBut hs (Ne.symm (cne x c hc)), fun j y v' e1 e2 e3 => ?_⟩, fun y c' e => ?_, I.free, I.freeC, fun p hp => ?_, tracked ⟨oc, hoc, I.freeC x c hc⟩ hs, by simpa using I.len⟩ ⟨c, hs, .inr hc⟩
    · exact (hs.2 b (Nat.ne_of_lt (Nat.lt_of_lt_of_le (Heap.lt_size e) (I.ok.cab x c hfn hc)))).trans (I.base.keep b o e n hb hx)
    · obtain ⟨sl, e1⟩ := I.base.slot b o e n hb hx
      exact ⟨sl, (hs.2 b (Nat.ne_of_lt (Nat.lt_of_lt_of_le (Heap.lt_size e) (I.ok.cab x c hfn hc)))).trans e1⟩
    · obtain ⟨o', e1⟩ := I.base.there b o e hx
      exact ⟨o', (hs.2 b (Nat.ne_of_lt (Nat.lt_of_lt_of_le (Heap.lt_size e) (I.ok.cab x c hfn hc)))).trans e1⟩
    · by_cases hj : j = i
      · subst hj
        rw [hi] at e1; cases e1
        rw [List.getElem?_set_self hiσ] at e2
        cases e2
        exact ⟨u, r, .inr ⟨.inl hk, c, hc, hc'⟩⟩
      · rw [List.getElem?_set_ne (Ne.symm hj)] at e2
        obtain ⟨u', r', q⟩ := hl j y v' e1 e2 e3
        refine ⟨u', r', ?_⟩
        rcases q with q | ⟨k, c', e, z'⟩
        · exact .inl q
        · refine .inr ⟨k, c', e, z'.sameBut hs ?_⟩
          rintro rfl
          exact hj (nodup_ix hN e1 (I.ok.inj _ _ _ e hc ▸ hi))
    · by_cases hcc : c' = c
      · subst hcc; exact ⟨_, hc'⟩
      · obtain ⟨w2, z2⟩ := I.cell y c' e
        exact ⟨w2, z2.sameBut hs hcc⟩
    · obtain ⟨e, n, ne, nf, d⟩ := I.pin p hp
      refine ⟨(hs.2 p.1 ?_).trans e, n, ne, nf, d⟩
      intro q
      rw [q, hoc] at e
      have q' : oc = p.2 := Option.some.inj e
      exact d w' (by rw [← q']; exact hocd)
theorem store_ok {M : Model} {A : Around} {E : Value → Shared → Prop} {i : Nat} {x : Str} {v : V} {u : Value} {Q : Unit → Shared → Prop} (I : Inv X pins σ H s) (hN : X.N.Nodup) (hi : X.N[i]? = some x) (hx : Loc X.env.scope x) (r : RelV v u)
    (h : ∀ s', Inv X pins (σ.set i (some v)) H s' → Q () s') (hf : X.fn x = true ∨ X.env.scope.names.lookup x = some .local := by first | exact .inl rfl | exact .inr rfl | assumption) : wpAny M A (storeName X.env x u) Q E s :=
  store_ok2 I hN hi hx r (fun s' I' _ => h s' I') hf
theorem Inv.call' {s' : Shared} {ch : List Addr} (I : Inv X pins σ H s) (ho : s'.os = s.os) (u : Un (frs X.stack) ch H H' s.heap s'.heap) (hok : HOk X.prog X.w H' s'.heap) (hg : AllBare s'.gens)
    (hch : ∀ b ∈ ch, (b ∈ X.ex ∨ X.s₀.heap.objs.size ≤ b) ∧ b ≠ X.env.locals ∧ (∀ x c, X.env.cells.lookup x = some c → c ≠ b) ∧ ∀ p ∈ X.pn ++ pins, p.1 ≠ b) : Inv X pins σ H' s' := by
  obtain ⟨h', g', d', t', o'⟩ := s'
  have e : o' = s.os := ho
  subst e
  exact I.call (g' := g') (t' := t') (d' := d') u hok hg hch
end
abbrev XK := Value → Option Addr → Hp → Prop
abbrev St := List (Option V)
abbrev VK := V → Hp → Prop
abbrev TE := St → Hp → VK → Prop
abbrev TT := St → Hp → (Bool → Hp → Prop) → Prop
abbrev TA := St → Hp → (List V → Hp → Prop) → Prop
structure Ends where
  nx : St → Hp → Prop
  rt : VK
  bk : St → Hp → Prop := fun _ _ => False
  ct : St → Hp → Prop := fun _ _ => False
abbrev TS := Ends → St → Hp → Prop
def EP (X : Cx) (pins : List (Addr × Obj)) (σ : St) (Q : VK) (u : Value) (s' : Shared) : Prop := ∃ v H', Inv X pins σ H' s' ∧ RelV v u ∧ Q v H'
def TP (X : Cx) (pins : List (Addr × Obj)) (σ : St) (Q : Bool → Hp → Prop) (b : Bool) (s' : Shared) : Prop := ∃ H', Inv X pins σ H' s' ∧ Q b H'
def AP (X : Cx) (pins : List (Addr × Obj)) (σ : St) (Q : List V → Hp → Prop) (us : List Value) (s' : Shared) : Prop := ∃ vs H', Inv X pins σ H' s' ∧ Vals vs us ∧ Q vs H'
def SP (X : Cx) (pins : List (Addr × Obj)) (D : Ends) (f : Flow) (s' : Shared) : Prop :=
  match f with
  | .next => ∃ σ' H', Inv X pins σ' H' s' ∧ D.nx σ' H'
  | .brk => ∃ σ' H', Inv X pins σ' H' s' ∧ D.bk σ' H'
  | .cont => ∃ σ' H', Inv X pins σ' H' s' ∧ D.ct σ' H'
  | .ret u => ∃ v σ' H', Inv X pins σ' H' s' ∧ RelV v u ∧ D.rt v H'
def PE (X : Cx) (e : Expr) (t : TE) : Prop :=
  ∀ (pins : List (Addr × Obj)) (s : Shared) (σ : St) (H : Hp) (Q : VK), Inv X pins σ H s → t σ H Q → wpAny (model X.prog X.w) X.A (eval e X.env) (EP X pins σ Q) X.xe s
def PT (X : Cx) (e : Expr) (t : TT) : Prop :=
  ∀ (pins : List (Addr × Obj)) (s : Shared) (σ : St) (H : Hp) (Q : Bool → Hp → Prop), Inv X pins σ H s → t σ H Q → wpAny (model X.prog X.w) X.A (isTrue e X.env (eval e X.env)) (TP X pins σ Q) X.xe s
def PW (X : Cx) (e : Expr) (t : TT) : Prop :=
  ∀ (whole : Sem Value) (pins : List (Addr × Obj)) (s : Shared) (σ : St) (H : Hp) (Q : Bool → Hp → Prop), Inv X pins σ H s → t σ H Q → wpAny (model X.prog X.w) X.A (isTrue e X.env whole) (TP X pins σ Q) X.xe s
theorem PW.pt {X : Cx} {e : Expr} {t : TT} (h : PW X e t) : PT X e t := h _
def PA (X : Cx) (es : List Expr) (t : TA) : Prop :=
  ∀ (pos : Pos) (pins : List (Addr × Obj)) (s : Shared) (σ : St) (H : Hp) (Q : List V → Hp → Prop), Inv X pins σ H s → t σ H Q → wpAny (model X.prog X.w) X.A (spliced (backTo pos (starEach es X.env))) (AP X pins σ Q) X.xe s
def PS (X : Cx) (st : Stmt) (t : TS) : Prop :=
  ∀ (pins : List (Addr × Obj)) (s : Shared) (σ : St) (H : Hp) (D : Ends), Inv X pins σ H s → t D σ H → wpAny (model X.prog X.w) X.A (exec st X.env) (SP X pins D) X.xe s
def PSs (X : Cx) (st : List Stmt) (t : TS) : Prop :=
  ∀ (pins : List (Addr × Obj)) (s : Shared) (σ : St) (H : Hp) (D : Ends), Inv X pins σ H s → t D σ H → wpAny (model X.prog X.w) X.A (execs st X.env) (SP X pins D) X.xe s
theorem thn {α : Type} {t : Sem α} {Q Q' : α → Shared → Prop} {M : Model} {A : Around} {E : Value → Shared → Prop} {s : Shared} (h : wpAny M A t Q E s) (hQ : ∀ a s, Q a s → Q' a s) : wpAny M A t Q' E s := wpAny_mono h hQ fun _ _ x => x
end L2
namespace L2
open PySem PySem.Spec PyProof.Rows
section
variable {X : Cx}
def tVar (i : Nat) : TE := fun σ H Q => ∃ v, σ[i]? = some (some v) ∧ Q v H
def tC (v : V) : TE := fun _ H Q => Q v H
theorem pe_var {i : Nat} {x : Str} {pos : Pos} (hN : X.N[i]? = some x) (hv : Vis X.env.scope x) (hd : (x == ("__debug__" : Str)) = false := by decide) (hcd : (x == ("__classdict__" : Str)) = false := by decide) : PE X (.Name x pos) (tVar i) := by
  intro pins s σ H Q I h
  obtain ⟨v, e, h⟩ := h
  obtain ⟨m, hn, hl⟩ := I.loc
  obtain ⟨u, r, l⟩ := hl i x v hN e hv
  have fin : EP X pins σ Q u s := ⟨v, H, I, r, h⟩
  rcases l with ⟨hk, hm⟩ | ⟨hk, c, hc, hcell⟩
  · exact wpAny_Name (wpAny_loadName_local I.ok.kind hk hn hm fin) hd
  · rcases hk with hk | hk
    · exact wpAny_Name (wpAny_loadName_cell I.ok.kind hk hc hcell fin) hd
    · exact wpAny_Name (wpAny_loadName_free I.ok.kind hk hc hcell fin hcd) hd
theorem pe_int {i j pos} : PE X (.Constant (.int i) j pos) (tC (.int i)) := fun _ _ _ H _ I h => wpAny_Constant_int ⟨.int i, H, I.tok _, ⟨_, rfl⟩, h⟩
theorem pe_bl {b j pos} : PE X (.Constant (.bool b) j pos) (tC (.bl b)) := fun _ _ _ H _ I h => Constant_bool ⟨.bl b, H, I, rfl, h⟩
theorem pe_non {j pos} : PE X (.Constant .none j pos) (tC .non) := fun _ _ _ H _ I h => Constant_none ⟨.non, H, I, rfl, h⟩
theorem pe_str {x j pos} : PE X (.Constant (.str x) j pos) (tC (.str x)) := fun _ _ _ H _ I h => Calls.Constant_str ⟨.str x, H, I.tok _, ⟨_, rfl⟩, h⟩
def Gl (X : Cx) (x : Str) : Prop := X.env.kindOf x = some .globalImplicit
theorem ld_glob {E : Value → Shared → Prop} {pins : List (Addr × Obj)} {s : Shared} {σ : St} {H : Hp} {x : Str} {u : Value} {pos : Pos} {Q : Value → Shared → Prop} (I : Inv X pins σ H s) (hg : Gl X x) (hm : X.mg x = some u) (h : Q u s)
    (hd : (x == ("__debug__" : Str)) = false := by decide) : wpAny (model X.prog X.w) X.A (eval (.Name x pos) X.env) Q E s :=
  Calls.Name_function_global I.ok.kind hg (Calls.loadGlobal_global (by rw [I.ok.glob]; exact I.mod.glob.keeps I.bk) hm h) hd
theorem ld_blt {E : Value → Shared → Prop} {pins : List (Addr × Obj)} {s : Shared} {σ : St} {H : Hp} {x : Str} {u : Value} {pos : Pos} {Q : Value → Shared → Prop} (I : Inv X pins σ H s) (hg : Gl X x) (hm : X.mg x = none) (hv : bootBuiltins x = some u) (h : Q u s)
    (hn : x ≠ "__name__" := by decide) (hd : (x == ("__debug__" : Str)) = false := by decide) : wpAny (model X.prog X.w) X.A (eval (.Name x pos) X.env) Q E s := by
  obtain ⟨mb, h1, h2⟩ := I.mod.blt
  exact Calls.Name_function_global I.ok.kind hg (Calls.loadGlobal_builtin (by rw [I.ok.glob]; exact I.mod.glob.keeps I.bk) hm (by rw [I.ok.blt]; exact h1.keeps I.bk) ((h2 x hn).trans hv) h) hd
theorem pe_glob {x : Str} {v : V} {u : Value} {pos : Pos} (hg : Gl X x) (hm : X.mg x = some u) (r : RelV v u) (hd : (x == ("__debug__" : Str)) = false := by decide) : PE X (.Name x pos) (tC v) :=
  fun _ _ _ H _ I h => ld_glob I hg hm ⟨v, H, I, r, h⟩ hd
theorem pe_bltn {x : Str} {v : V} {u : Value} {pos : Pos} (hg : Gl X x) (hm : X.mg x = none) (hv : bootBuiltins x = some u) (r : RelV v u) (hn : x ≠ "__name__" := by decide) (hd : (x == ("__debug__" : Str)) = false := by decide) : PE X (.Name x pos) (tC v) :=
  fun _ _ _ H _ I h => ld_blt I hg hm hv ⟨v, H, I, r, h⟩ hn hd
variable {a b : Expr} {ta tb : TE} {pos : Pos}
def PC (X : Cx) (op : CmpOp) (a b : Expr) (t : TE) : Prop :=
  ∀ (pins : List (Addr × Obj)) (s : Shared) (σ : St) (H : Hp) (Q : VK), Inv X pins σ H s → t σ H Q →
    wpAny (model X.prog X.w) X.A (eval a X.env) (fun v s₁ => wpAny (model X.prog X.w) X.A (eval b X.env) (fun u s₂ => wpAny (model X.prog X.w) X.A (compareOp op v u) (EP X pins σ Q) X.xe s₂) X.xe s₁) X.xe s
theorem nobehind (b : Expr) {op : CmpOp} (h : op ≠ .In) (h2 : op ≠ .NotIn) : behindInMarks op b = false := by
  have e1 : (op == CmpOp.In) = false := by cases op <;> first | rfl | exact absurd rfl h
  have e2 : (op == CmpOp.NotIn) = false := by cases op <;> first | rfl | exact absurd rfl h2
  cases b <;> simp [behindInMarks, e1, e2]
def tIsN (ta : TE) : TE := fun σ H Q => ta σ H fun x H1 => Q (.bl (decide (x = .non))) H1
def tNotN (ta : TE) : TE := fun σ H Q => ta σ H fun x H1 => Q (.bl (!decide (x = .non))) H1
theorem RelV.none_iff {x : V} {v : Value} (r : RelV x v) : (v == Value.none) = decide (x = .non) := by
  cases x with
  | non => cases r; rfl
  | bl _ => cases r; rfl
  | int _ => obtain ⟨t, rfl⟩ := r; rfl
  | str _ => obtain ⟨t, rfl⟩ := r; rfl
  | byt _ => obtain ⟨t, rfl⟩ := r; rfl
  | flt _ => obtain ⟨t, rfl⟩ := r; rfl
  | ref _ => cases r; rfl
  | ty _ => cases r; rfl
theorem pc_isN {j pos'} (ha : PE X a ta) : PC X .Is a (.Constant .none j pos') (tIsN ta) := by
  intro pins s σ H Q I h
  refine thn (ha pins s σ H _ I h) fun v s1 ⟨x, H1, I1, r1, q1⟩ => ?_
  exact Constant_none (is_none_gen ⟨.bl _, H1, I1, by rw [r1.none_iff]; rfl, q1⟩)
theorem pc_notN {j pos'} (ha : PE X a ta) : PC X .IsNot a (.Constant .none j pos') (tNotN ta) := by
  intro pins s σ H Q I h
  refine thn (ha pins s σ H _ I h) fun v s1 ⟨x, H1, I1, r1, q1⟩ => ?_
  exact Constant_none (isnot_none_gen ⟨.bl _, H1, I1, by rw [r1.none_iff]; rfl, q1⟩)
def tB (t : TE) : TT := fun σ H Q => t σ H fun x H1 => ∃ c, x = .bl c ∧ Q c H1
theorem pe_cmp {op : CmpOp} {t : TE} (h : PC X op a b t) (h1 : behindInMarks op b = false := by first | exact nobehind _ (by decide) (by decide) | rfl) : PE X (.Compare a [op] [b] pos) t := fun pins s σ H Q I hw => wpAny_Compare1 (h pins s σ H Q I hw) h1
theorem pt_cmp {op : CmpOp} {t : TE} (h : PC X op a b t) (h1 : behindInMarks op b = false := by first | exact nobehind _ (by decide) (by decide) | rfl) : PT X (.Compare a [op] [b] pos) (tB t) := by
  intro pins s σ H Q I hw
  refine wpAny_isTrue_Compare1 (thn (h pins s σ H _ I hw) fun v s1 h1 => thn h1 fun u s2 h2 => thn h2 fun c s3 ⟨x, H1, I1, r1, q1⟩ => ?_) h1
  obtain ⟨d, rfl, q⟩ := q1
  cases r1
  exact wpAny_truthy_bool ⟨H1, I1, q⟩
theorem pt_val {e : Expr} {t : TE} (h : PE X e t) (he : ∀ whole, isTrue e X.env whole = (do let v ← whole; standAt e.pos; holding [v] (truthy v)) := by intro _; rfl) : PT X e (tB t) := by
  intro pins s σ H Q I hw
  refine isTrue_plain (thn (h pins s σ H _ I hw) fun v s1 ⟨x, H1, I1, r1, q1⟩ => ?_) (he _)
  obtain ⟨d, rfl, q⟩ := q1
  cases r1
  exact wpAny_truthy_bool ⟨H1, I1, q⟩
variable {tA tB' : TT} {rest : List Expr}
def tAnd (t u : TT) : TT := fun σ H Q => t σ H fun c H1 => if c = true then u σ H1 Q else Q false H1
def tOr (t u : TT) : TT := fun σ H Q => t σ H fun c H1 => if c = true then Q true H1 else u σ H1 Q
def tNot (t : TT) : TT := fun σ H Q => t σ H fun c H1 => Q (!c) H1
theorem pw_and1 (ha : PT X a tA) : PW X (.BoolOp .And [a] pos) tA := by
  intro wh pins s σ H Q I h
  refine isTrue_and (thn (ha pins s σ H Q I h) fun c s1 e => ?_)
  cases c with
  | true => exact isTrue_and_nil e
  | false => exact e
theorem pw_or1 (ha : PT X a tA) : PW X (.BoolOp .Or [a] pos) tA := by
  intro wh pins s σ H Q I h
  refine isTrue_or (thn (ha pins s σ H Q I h) fun c s1 e => ?_)
  cases c with
  | false => exact isTrue_or_nil e
  | true => exact e
theorem pw_and (ha : PT X a tA) (hb : PW X (.BoolOp .And (b :: rest) pos) tB') : PW X (.BoolOp .And (a :: b :: rest) pos) (tAnd tA tB') := by
  intro wh pins s σ H Q I h
  refine isTrue_and (thn (ha pins s σ H _ I h) fun c s1 ⟨H1, I1, q1⟩ => ?_)
  cases c with
  | true => exact hb wh pins s1 σ H1 Q I1 q1
  | false => exact ⟨H1, I1, q1⟩
theorem pw_or (ha : PT X a tA) (hb : PW X (.BoolOp .Or (b :: rest) pos) tB') : PW X (.BoolOp .Or (a :: b :: rest) pos) (tOr tA tB') := by
  intro wh pins s σ H Q I h
  refine isTrue_or (thn (ha pins s σ H _ I h) fun c s1 ⟨H1, I1, q1⟩ => ?_)
  cases c with
  | true => exact ⟨H1, I1, q1⟩
  | false => exact hb wh pins s1 σ H1 Q I1 q1
theorem pt_not (ha : PT X a tA) : PT X (.UnaryOp .Not a pos) (tNot tA) := by
  intro pins s σ H Q I h
  exact isTrue_not (ha pins s σ H (fun c H1 => Q (!c) H1) I h)
def tAndV (ta tb : TE) : TE := fun σ H Q => ta σ H fun x H1 => ∃ c, x = .bl c ∧ if c = true then tb σ H1 Q else Q (.bl false) H1
def tOrV (ta tb : TE) : TE := fun σ H Q => ta σ H fun x H1 => ∃ c, x = .bl c ∧ if c = true then Q (.bl true) H1 else tb σ H1 Q
def tNotV (ta : TE) : TE := fun σ H Q => ta σ H fun x H1 => ∃ c, x = .bl c ∧ Q (.bl (!c)) H1
theorem pe_one {op} {t : TE} (h : PE X a t) : PE X (.BoolOp op [a] pos) t := fun pins s σ H Q I hw => BoolOp_one (h pins s σ H Q I hw)
theorem pe_and (ha : PE X a ta) (hb : PE X (.BoolOp .And (b :: rest) pos) tb) : PE X (.BoolOp .And (a :: b :: rest) pos) (tAndV ta tb) := by
  intro pins s σ H Q I h
  refine BoolOp_and (thn (ha pins s σ H _ I h) fun v s1 ⟨x, H1, I1, r1, q1⟩ => ?_)
  obtain ⟨c, rfl, q1⟩ := q1
  cases r1
  refine wpAny_truthy_bool ?_
  cases c with
  | true => exact hb pins s1 σ H1 Q I1 q1
  | false => exact ⟨.bl false, H1, I1, rfl, q1⟩
theorem pe_not (ha : PE X a ta) : PE X (.UnaryOp .Not a pos) (tNotV ta) := by
  intro pins s σ H Q I h
  refine UnaryOp_ (thn (ha pins s σ H _ I h) fun v s1 ⟨x, H1, I1, r1, q1⟩ => ?_)
  obtain ⟨c, rfl, q1⟩ := q1
  cases r1
  exact not_of (wpAny_truthy_bool ⟨.bl (!c), H1, I1, rfl, q1⟩)
def tIf (t : TT) (ta tb : TE) : TE := fun σ H Q => t σ H fun c H1 => if c = true then ta σ H1 Q else tb σ H1 Q
theorem pe_ifExp {c : Expr} (hc : PT X c tA) (ha : PE X a ta) (hb : PE X b tb) : PE X (.IfExp c a b pos) (tIf tA ta tb) := by
  intro pins s σ H Q I h
  refine wpAny_IfExp (thn (hc pins s σ H _ I h) fun d s1 ⟨H1, I1, q1⟩ => ?_)
  cases d with
  | true => exact ha pins s1 σ H1 Q I1 q1
  | false => exact hb pins s1 σ H1 Q I1 q1
end
end L2
namespace L2
open PySem PySem.Spec PyProof.Rows
def SqL (K : PySem.W.Frag) (H : Hp) (a : Addr) (xs : List V) : Prop :=
  Rd H a (.lst xs) ∨
    ∃ (o : Obj) (its : Array Value) (n : Nat), K.lookup a = some o ∧ o.cls = .type "list" ∧ o.dict = none ∧ o.data = .seq its n ∧ its.size ≤ sizeLine ∧ Vals xs its.toList
def SqT (K : PySem.W.Frag) (H : Hp) (a : Addr) (xs : List V) : Prop :=
  Rd H a (.tup xs) ∨
    ∃ (o : Obj) (its : Array Value) (n : Nat), K.lookup a = some o ∧ o.cls = .type "tuple" ∧ o.data = .seq its n ∧ its.size ≤ sizeLine ∧ Vals xs its.toList
def absV : Value → Option V
  | .none => some .non
  | .bool b => some (.bl b)
  | .int i _ => some (.int i)
  | .str x _ => some (.str x)
  | .bytes b _ => some (.byt b)
  | .float b _ => some (.flt b)
  | .ref a => some (.ref a)
  | .type n => some (.ty n)
  | _ => none
theorem RelV.abs {x : V} {u : Value} (r : RelV x u) : absV u = some x := by
  cases x with
  | non => cases r; rfl
  | bl _ => cases r; rfl
  | int _ => obtain ⟨t, rfl⟩ := r; rfl
  | str _ => obtain ⟨t, rfl⟩ := r; rfl
  | byt _ => obtain ⟨t, rfl⟩ := r; rfl
  | flt _ => obtain ⟨t, rfl⟩ := r; rfl
  | ref _ => cases r; rfl
  | ty _ => cases r; rfl
theorem RelV.inj {x y : V} {u : Value} (r : RelV x u) (q : RelV y u) : x = y := Option.some.inj (r.abs.symm.trans q.abs)
theorem Vals.inj : ∀ {xs ys : List V} {us : List Value}, Vals xs us → Vals ys us → xs = ys
  | _, _, _, .nil, .nil => rfl
  | _, _, _, .cons r t, .cons r' t' => by rw [r.inj r', Vals.inj t t']
section
variable {X : Cx} {pins : List (Addr × Obj)} {σ : St} {H : Hp} {s : Shared} {a : Addr} {xs ys : List V}
theorem SqL.of {K : PySem.W.Frag} (h : H a = some (.lst xs)) : SqL K H a xs := .inl (.inl h)
theorem SqT.of {K : PySem.W.Frag} (h : H a = some (.tup xs)) : SqT K H a xs := .inl (.inl h)
theorem Inv.list (I : Inv X pins σ H s) (h : SqL X.K H a xs) : ∃ its : List Value, Vals xs its ∧ PlainL s.heap a its.toArray ∧ xs.length ≤ sizeLine := by
  rcases h with h | ⟨o, its, n, hk, hc, hd, hs, hz, r⟩
  · obtain ⟨z, its, n, r, e⟩ := h.ok I.hok
    exact ⟨its, r, ⟨_, n, e, rfl, rfl, rfl⟩, z⟩
  · refine ⟨its.toList, r, ⟨o, n, I.kIn a o hk, hc, hd, by simpa using hs⟩, ?_⟩
    have e := r.length
    simp only [Array.length_toList] at e
    omega
theorem Inv.tuple (I : Inv X pins σ H s) (h : SqT X.K H a xs) : ∃ its : List Value, Vals xs its ∧ IsTup s.heap a its.toArray ∧ xs.length ≤ sizeLine := by
  rcases h with h | ⟨o, its, n, hk, hc, hs, hz, r⟩
  · obtain ⟨z, its, r, p⟩ := h.ok I.hok
    exact ⟨its, r, p, z.1⟩
  · refine ⟨its.toList, r, ⟨o, I.kIn a o hk, hc, n, by simpa using hs⟩, ?_⟩
    have e := r.length
    simp only [Array.length_toList] at e
    omega
theorem Inv.list_inj (I : Inv X pins σ H s) (h : SqL X.K H a xs) (h' : SqL X.K H a ys) : xs = ys := by
  obtain ⟨its, r, ⟨o, n, e, _, _, d⟩, _⟩ := I.list h
  obtain ⟨its', r', ⟨o', n', e', _, _, d'⟩, _⟩ := I.list h'
  rw [e] at e'; cases e'
  rw [d] at d'
  injection d' with d1 _
  have : its = its' := by simpa using congrArg Array.toList d1
  subst this
  exact r.inj r'
theorem Inv.tuple_inj (I : Inv X pins σ H s) (h : SqT X.K H a xs) (h' : SqT X.K H a ys) : xs = ys := by
  obtain ⟨its, r, ⟨o, e, _, n, d⟩, _⟩ := I.tuple h
  obtain ⟨its', r', ⟨o', e', _, n', d'⟩, _⟩ := I.tuple h'
  rw [e] at e'; cases e'
  rw [d] at d'
  injection d' with d1 _
  have : its = its' := by simpa using congrArg Array.toList d1
  subst this
  exact r.inj r'
end
abbrev Cx.wish (X : Cx) (E : Value → Shared → Prop) : Cx := { X with xe := E }
abbrev Cx.nox (X : Cx) : Cx := X.wish fun _ _ => False
theorem Cx.Ok.wish {X : Cx} (ok : X.Ok) (E : Value → Shared → Prop) : (X.wish E).Ok :=
  ⟨ok.mod, ok.kind, ok.glob, ok.blt, ok.above, ok.inj, ok.has, ok.cab, ok.hd, ok.frames, ok.stk, ok.exf, ok.bs, ok.bsz, ok.noex, ok.exfs, ok.funs, ok.frf⟩
theorem Cx.Ok.unwish {X : Cx} {E : Value → Shared → Prop} (ok : (X.wish E).Ok) : X.Ok :=
  ⟨ok.mod, ok.kind, ok.glob, ok.blt, ok.above, ok.inj, ok.has, ok.cab, ok.hd, ok.frames, ok.stk, ok.exf, ok.bs, ok.bsz, ok.noex, ok.exfs, ok.funs, ok.frf⟩
section
variable {X : Cx} {pins : List (Addr × Obj)} {σ : St} {H : Hp} {s : Shared} {E : Value → Shared → Prop}
theorem Inv.wish (I : Inv X pins σ H s) (E : Value → Shared → Prop) : Inv (X.wish E) pins σ H s := ⟨I.ok.wish E, I.os, I.bare, I.base, I.loc, I.cell, I.free, I.freeC, I.pin, I.hok, I.len⟩
theorem Inv.unwish (I : Inv (X.wish E) pins σ H s) : Inv X pins σ H s := ⟨I.ok.unwish, I.os, I.bare, I.base, I.loc, I.cell, I.free, I.freeC, I.pin, I.hok, I.len⟩
theorem SP.unwish {D : Ends} {f : Flow} {s' : Shared} (h : SP (X.wish E) pins D f s') : SP X pins D f s' := by
  cases f with
  | next => obtain ⟨σ', H', I, q⟩ := h; exact ⟨σ', H', I.unwish, q⟩
  | brk => obtain ⟨σ', H', I, q⟩ := h; exact ⟨σ', H', I.unwish, q⟩
  | cont => obtain ⟨σ', H', I, q⟩ := h; exact ⟨σ', H', I.unwish, q⟩
  | ret u => obtain ⟨v, σ', H', I, r, q⟩ := h; exact ⟨v, σ', H', I.unwish, r, q⟩
theorem PSs.nox {st : List Stmt} {t : TS} (h : PSs X.nox st t) : PSs X st t := fun pins s σ H D I hw =>
  wpAny_mono (h pins s σ H D (I.wish _) hw) (fun _ _ q => q.unwish) fun _ _ z => False.elim z
end
section
variable {X : Cx} {st : Stmt} {rest : List Stmt} {t u : TS} {e : Expr} {te : TE} {pos : Pos}
def tNext : TS := fun D σ H => D.nx σ H
def tSeq (t u : TS) : TS := fun D σ H => t { D with nx := u D } σ H
theorem pss_nil : PSs X [] tNext := fun _ _ σ H _ I h => wpAny_execs_nil ⟨σ, H, I, h⟩
theorem pss_cons (h1 : PS X st t) (h2 : PSs X rest u) : PSs X (st :: rest) (tSeq t u) := by
  intro pins s σ H D I h
  refine wpAny_execs_cons (thn (h1 pins s σ H { D with nx := u D } I h) fun f s1 q => ?_)
  cases f with
  | next =>
    obtain ⟨σ', H', I', q⟩ := q
    exact h2 pins s1 σ' H' D I' q
  | ret v => exact q
  | brk => exact q
  | cont => exact q
theorem pss_one (h1 : PS X st t) : PSs X [st] t := by
  intro pins s σ H D I h
  refine wpAny_execs_cons (thn (h1 pins s σ H D I h) fun f s1 q => ?_)
  cases f with
  | next => exact wpAny_execs_nil q
  | ret v => exact q
  | brk => exact q
  | cont => exact q
theorem Inv.quiet {pins : List (Addr × Obj)} {σ : St} {H : Hp} {s : Shared} (I : Inv X pins σ H s) : interactive X.env = false := by simp [interactive, I.ok.kind]
def tDrop (te : TE) : TS := fun D σ H => te σ H fun _ H1 => D.nx σ H1
theorem ps_expr (he : PE X e te) (hs : swapsWith e none pos.line X.env = pure false := by rfl) : PS X (.Expr e pos) (tDrop te) := by
  intro pins s σ H D I h
  exact wpAny_Expr_any (thn (he pins s σ H _ I h) fun v s1 ⟨x, H1, I1, r1, q1⟩ => ⟨σ, H1, I1, q1⟩) I.quiet hs
def tRet (te : TE) : TS := fun D σ H => te σ H D.rt
theorem ps_ret (he : PE X e te) : PS X (.Return (some e) pos) (tRet te) := by
  intro pins s σ H D I h
  exact wpAny_Return_some (thn (he pins s σ H _ I h) fun v s1 ⟨x, H1, I1, r1, q1⟩ => ⟨x, σ, H1, I1, r1, q1⟩)
def tIfS (c : TT) (t u : TS) : TS := fun D σ H => c σ H fun b H1 => if b = true then t D σ H1 else u D σ H1
theorem ps_if {c : Expr} {a b : List Stmt} {tc : TT} (hc : PT X c tc) (ha : PSs X a t) (hb : PSs X b u) : PS X (.If c a b pos) (tIfS tc t u) := by
  intro pins s σ H D I h
  refine wpAny_If (thn (hc pins s σ H _ I h) fun d s1 ⟨H1, I1, q1⟩ => ?_)
  cases d with
  | true => exact ha pins s1 σ H1 D I1 q1
  | false => exact hb pins s1 σ H1 D I1 q1
end
abbrev TG := V → St → Hp → (St → Hp → Prop) → Prop
abbrev TGs := List V → St → Hp → (St → Hp → Prop) → Prop
def PG (X : Cx) (target : Expr) (t : TG) : Prop :=
  ∀ (pins : List (Addr × Obj)) (s : Shared) (σ : St) (H : Hp) (v : V) (u : Value) (Q : St → Hp → Prop), Inv X pins σ H s → RelV v u → t v σ H Q →
    wpAny (model X.prog X.w) X.A (assign target X.env u) (fun _ s' => ∃ σ' H', Inv X pins σ' H' s' ∧ Q σ' H') X.xe s
def PGs (X : Cx) (ts : List Expr) (t : TGs) : Prop :=
  ∀ (pins : List (Addr × Obj)) (s : Shared) (σ : St) (H : Hp) (vs : List V) (us : List Value) (Q : St → Hp → Prop), Inv X pins σ H s → Vals vs us → t vs σ H Q →
    wpAny (model X.prog X.w) X.A (assignInOrder ((assignEach ts X.env).map (·.2)) us) (fun _ s' => ∃ σ' H', Inv X pins σ' H' s' ∧ Q σ' H') X.xe s
abbrev TSet := V → V → V → Hp → (Hp → Prop) → Prop
def PSet (X : Cx) (t : TSet) : Prop :=
  ∀ (pins : List (Addr × Obj)) (s : Shared) (σ : St) (H : Hp) (o i v : V) (ov iv u : Value) (Q : Hp → Prop), Inv X pins σ H s → RelV o ov → RelV i iv → RelV v u → t o i v H Q →
    wpAny (model X.prog X.w) X.A (setItem ov iv u) (fun _ s' => ∃ H', Inv X pins σ H' s' ∧ Q H') X.xe s
abbrev TIp := V → V → Hp → VK → Prop
def PIp (X : Cx) (op : Operator) (t : TIp) : Prop :=
  ∀ (pins : List (Addr × Obj)) (s : Shared) (σ : St) (H : Hp) (x y : V) (v u : Value) (Q : VK), Inv X pins σ H s → RelV x v → RelV y u → t x y H Q →
    wpAny (model X.prog X.w) X.A (inplaceOp op v u) (EP X pins σ Q) X.xe s
section
variable {X : Cx} {pos : Pos}
def gName (i : Nat) : TG := fun v σ H Q => Q (σ.set i (some v)) H
theorem pg_name {i : Nat} {x : Str} (hN : X.N.Nodup) (hi : X.N[i]? = some x) (hx : Loc X.env.scope x) (hf : X.fn x = true ∨ X.env.scope.names.lookup x = some .local := by first | exact .inl rfl | exact .inr rfl | assumption) : PG X (.Name x pos) (gName i) := by
  intro pins s σ H v u Q I r h
  exact wpAny_assign_Name (store_ok I hN hi hx r (fun s' I' => ⟨_, H, I', h⟩) hf)
def gNil : TGs := fun vs σ H Q => vs = [] ∧ Q σ H
def gCons (t : TG) (u : TGs) : TGs := fun vs σ H Q => ∃ v r, vs = v :: r ∧ t v σ H fun σ' H' => u r σ' H' Q
theorem pgs_nil : PGs X [] gNil := by
  intro pins s σ H vs us Q I r h
  obtain ⟨e, h⟩ := h
  subst e
  cases r
  exact assignInOrder_nil ⟨σ, H, I, h⟩
theorem pgs_cons {e : Expr} {es : List Expr} {t : TG} {u : TGs} (h1 : PG X e t) (h2 : PGs X es u)
    (hs : (assignEach (e :: es) X.env).map (·.2) = assign e X.env :: (assignEach es X.env).map (·.2) := by rfl) : PGs X (e :: es) (gCons t u) := by
  intro pins s σ H vs us Q I r h
  obtain ⟨v, vr, e1, h⟩ := h
  subst e1
  cases r with
  | cons r rr =>
    rw [hs]
    refine assignInOrder_cons (thn (h1 pins s σ H _ _ _ I r h) fun _ s1 ⟨σ1, H1, I1, q1⟩ => ?_)
    exact h2 pins s1 σ1 H1 _ _ Q I1 rr q1
def gTup (K : PySem.W.Frag) (n : Nat) (t : TGs) : TG := fun v σ H Q => ∃ a xs, v = .ref a ∧ SqT K H a xs ∧ xs.length = n ∧ t xs σ H Q
theorem pg_tup {es : List Expr} {k : Nat} {t : TGs} {n : Nat} (hc : X.calm = true) (h : PGs X es t)
    (hn : (assignEach es X.env).length = n := by rfl) (hst : (assignEach es X.env).findIdx? (·.1) = none := by rfl) : PG X (.Tuple es k pos) (gTup X.K n t) := by
  intro pins s σ H v u Q I r hw
  obtain ⟨a, xs, e1, hq, hl, hw⟩ := hw
  subst e1
  cases r
  obtain ⟨its, rv, ht, hz⟩ := I.tuple hq
  refine assign_Tuple_tuple (I.ok.hd hc) ht (by simp [hn, ← hl, rv.length]) hst fun h' hx => ?_
  have I1 : Inv X pins σ H { s with heap := h' } := I.kept (t' := s.toks) fun b o e => hx b o (Nat.ne_of_lt (Heap.lt_size e)) e
  exact h pins _ σ H xs _ Q I1 (by simpa using rv) hw
def gSub (to ti : TE) (t : TSet) : TG := fun v σ H Q => to σ H fun o H1 => ti σ H1 fun i H2 => t o i v H2 fun H3 => Q σ H3
theorem pg_sub {o i : Expr} {to ti : TE} {t : TSet} (ho : PE X o to) (hi : PE X i ti) (hs : PSet X t)
    (ha : ∀ v, assign (.Subscript o i pos) X.env v = (do
      let ov ← holding [v] (eval o X.env)
      let iv ← holding [v, ov] (eval i X.env)
      standAt pos
      holding [v, ov, iv] (setItem ov iv v)
      release [v, ov, iv] []) := by intro _; rfl) : PG X (.Subscript o i pos) (gSub to ti t) := by
  intro pins s σ H v u Q I r h
  rw [ha]
  refine wpAny_bind (wpAny_holding (thn (ho pins s σ H _ I h) fun ov s1 ⟨x, H1, I1, r1, q1⟩ => ?_))
  refine wpAny_bind (wpAny_holding (thn (hi pins s1 σ H1 _ I1 q1) fun iv s2 ⟨y, H2, I2, r2, q2⟩ => ?_))
  refine wpAny_bind (wpAny_standAt (wpAny_bind (wpAny_holding (thn (hs pins s2 σ H2 x y v ov iv u _ I2 r1 r2 r q2) fun _ s3 ⟨H3, I3, q3⟩ => ?_))))
  exact wpAny_release ⟨σ, H3, I3, q3⟩
def tAsg (te : TE) (g : TG) : TS := fun D σ H => te σ H fun x H1 => g x σ H1 D.nx
theorem ps_asg {tg e : Expr} {te : TE} {g : TG} (he : PE X e te) (hg : PG X tg g) (hs : swapsWithSole [tg] e pos.line X.env = pure false := by rfl) (hw : swappedStores [tg] e X.env = pure none := by rfl)
    (h1 : (assignEach [tg] X.env).map (·.2) = [assign tg X.env] := by rfl) : PS X (.Assign [tg] e pos) (tAsg te g) := by
  intro pins s σ H D I h
  refine wpAny_Assign_stores (thn (he pins s σ H _ I h) fun v s1 ⟨x, H1, I1, r1, q1⟩ => ?_) hs hw
  rw [h1]
  exact thn (hg pins s1 σ H1 x v _ I1 r1 q1) fun _ s2 q => q
theorem ps_set {i : Nat} {x : Str} {e : Expr} {te : TE} {pos' : Pos} (hN : X.N.Nodup) (hi : X.N[i]? = some x) (hx : Loc X.env.scope x) (he : PE X e te) (hs : swapsWith e (some (.Name x pos')) pos.line X.env = pure false := by rfl) (hf : X.fn x = true ∨ X.env.scope.names.lookup x = some .local := by first | exact .inl rfl | exact .inr rfl | assumption) :
    PS X (.Assign [.Name x pos'] e pos) (tAsg te (gName i)) := by
  intro pins s σ H D I h
  refine wpAny_Assign_Name (thn (he pins s σ H _ I h) fun v s1 ⟨y, H1, I1, r1, q1⟩ => ?_) hs
  exact store_ok I1 hN hi hx r1 (fun s2 I2 => ⟨_, H1, I2, q1⟩) hf
def tAugS (to ti te : TE) (tget : V → V → Hp → VK → Prop) (tip : TIp) (tset : TSet) : TS := fun D σ H => to σ H fun o H1 => ti σ H1 fun i H2 => tget o i H2 fun x H3 => te σ H3 fun y H4 => tip x y H4 fun z H5 => tset o i z H5 fun H6 => D.nx σ H6
def PGet (X : Cx) (t : V → V → Hp → VK → Prop) : Prop :=
  ∀ (pins : List (Addr × Obj)) (s : Shared) (σ : St) (H : Hp) (o i : V) (ov iv : Value) (Q : VK), Inv X pins σ H s → RelV o ov → RelV i iv → t o i H Q →
    wpAny (model X.prog X.w) X.A (getItem ov iv) (EP X pins σ Q) X.xe s
theorem ps_augS {o i e : Expr} {to ti te : TE} {tget : V → V → Hp → VK → Prop} {tip : TIp} {tset : TSet} {op : Operator} {tpos : Pos} (ho : PE X o to) (hi : PE X i ti) (hg : PGet X tget) (he : PE X e te) (hp : PIp X op tip) (hs : PSet X tset)
    (ha : ∀ ov iv new, augStore i ov iv new = (do holding [new, ov, iv] (setItem ov iv new); release [new, ov, iv] []; pure .next) := by intros; rfl) : PS X (.AugAssign (.Subscript o i tpos) op e pos) (tAugS to ti te tget tip tset) := by
  intro pins s σ H D I h
  refine wpAny_AugAssign_SubscriptAny (thn (ho pins s σ H _ I h) fun ov s1 ⟨x1, H1, I1, r1, q1⟩ => ?_) ha
  refine thn (hi pins s1 σ H1 _ I1 q1) fun iv s2 ⟨x2, H2, I2, r2, q2⟩ => ?_
  refine thn (hg pins s2 σ H2 x1 x2 ov iv _ I2 r1 r2 q2) fun old s3 ⟨x3, H3, I3, r3, q3⟩ => ?_
  refine thn (he pins s3 σ H3 _ I3 q3) fun v s4 ⟨x4, H4, I4, r4, q4⟩ => ?_
  refine thn (hp pins s4 σ H4 x3 x4 old v _ I4 r3 r4 q4) fun new s5 ⟨x5, H5, I5, r5, q5⟩ => ?_
  exact thn (hs pins s5 σ H5 x1 x2 x5 ov iv new _ I5 r1 r2 r5 q5) fun _ s6 ⟨H6, I6, q6⟩ => ⟨σ, H6, I6, q6⟩
def ipI (f : Int → Int → Int) : TIp := fun x y H Q => ∃ i j, x = .int i ∧ y = .int j ∧ Q (.int (f i j)) H
theorem ip_add : PIp X .Add (ipI fun i j => i + j) := by
  intro pins s σ H x y v u Q I r1 r2 h
  obtain ⟨i, j, e1, e2, q⟩ := h
  subst e1; subst e2
  obtain ⟨t, rfl⟩ := r1
  obtain ⟨t', rfl⟩ := r2
  exact iadd_int ⟨.int _, H, I.tok _, ⟨_, rfl⟩, q⟩
end
section
variable {X : Cx} {pos : Pos}
def tWhile (c : TT) (tb : TS) : TS := fun D σ H => ∃ W : Nat → St → Hp → Prop, (∃ m, W m σ H) ∧ ∀ m σ H, W m σ H →
  c σ H fun b H1 => if b = true then ∃ N : St → Hp → Prop, (∀ σ' H', N σ' H' → ∃ m', m' < m ∧ W m' σ' H') ∧ tb { D with nx := N, ct := N, bk := D.nx } σ H1 else D.nx σ H1
theorem ps_while {c : Expr} {body : List Stmt} {tc : TT} {tb : TS} (hp : PassesOwn (model X.prog X.w) X.A X.env X.xe) (hc : PT X c tc) (hb : PSs X body tb) : PS X (.While c body [] pos) (tWhile tc tb) := by
  intro pins s σ H D I h
  obtain ⟨W, ⟨m0, w0⟩, turn⟩ := h
  refine wpAny_While (codeAny_whileLoop (fun n s' => ∃ σ' H', Inv X pins σ' H' s' ∧ W n σ' H') ?_ m0 ⟨σ, H, I, w0⟩)
  rintro n s1 ⟨σ1, H1, I1, w1⟩
  refine wpAny_passesOwn hp (thn (hc pins s1 σ1 H1 _ I1 (turn n σ1 H1 w1)) fun b s2 ⟨H2, I2, q2⟩ => ?_)
  cases b with
  | true =>
    obtain ⟨N, hN, q2⟩ := q2
    rw [if_pos rfl]
    refine wpAny_passesOwn hp (thn (hb pins s2 σ1 H2 _ I2 q2) fun f s3 q3 => ?_)
    cases f with
    | next =>
      obtain ⟨σ3, H3, I3, n3⟩ := q3
      obtain ⟨m', hm, w3⟩ := hN σ3 H3 n3
      exact ⟨m', hm, σ3, H3, I3, w3⟩
    | cont =>
      obtain ⟨σ3, H3, I3, n3⟩ := q3
      obtain ⟨m', hm, w3⟩ := hN σ3 H3 n3
      exact ⟨m', hm, σ3, H3, I3, w3⟩
    | brk => exact q3
    | ret v => exact q3
  | false =>
    rw [if_neg Bool.false_ne_true]
    exact wpAny_execs_nil ⟨σ1, H2, I2, q2⟩
end
structure It where
  go : Nat → Hp → Prop
  yld : Nat → Hp → V → Hp → Prop
  stop : Nat → Hp → Prop
def FpOk (X : Cx) (pins : List (Addr × Obj)) (H : Hp) (b : Addr) : Prop :=
  H b = none ∧ b ≠ X.env.locals ∧ b ∉ X.fs ∧ (b ∈ X.ex ∨ X.s₀.heap.objs.size ≤ b) ∧ (∀ x c, X.env.cells.lookup x = some c → c ≠ b) ∧ ∀ p ∈ X.pn ++ pins, p.1 ≠ b
theorem Inv.fpOk {X : Cx} {pins : List (Addr × Obj)} {σ : St} {H H' : Hp} {s : Shared} {b : Addr} (I : Inv X pins σ H s) (hb : s.heap.objs.size ≤ b) (hn : H' b = none) : FpOk X pins H' b := by
  refine ⟨hn, Nat.ne_of_gt (Nat.lt_of_lt_of_le I.lt hb), I.nofs hb, .inr (Nat.le_trans I.sz hb), fun x c e z => ?_, fun p hp z => ?_⟩
  · obtain ⟨v, q⟩ := I.cell x c e
    exact absurd (Nat.lt_of_lt_of_le q.lt (by rw [z]; exact hb)) (Nat.lt_irrefl _)
  · exact absurd (Nat.lt_of_lt_of_le (Heap.lt_size (I.pin p hp).1) (by rw [z]; exact hb)) (Nat.lt_irrefl _)
structure Turn (P : Program) (w : World) (K : PySem.W.Frag) (tg : Expr) (J : It) (fp : List Addr) (it : Addr) (tn : Nat → Heap → Prop) : Prop where
  mem : it ∈ fp
  obj : ∀ i h, tn i h → ∀ b ∈ fp, ∃ o, h.get? b = some o ∧ ∀ v, o.data ≠ .cell v
  keep : ∀ i h h', tn i h → (∀ b ∈ fp, ∀ o, h.get? b = some o → h'.get? b = some o) → tn i h'
  item : ∀ (X : Cx), X.prog = P → X.w = w → X.K = K → X.calm = true → ∀ (i : Nat) (pins : List (Addr × Obj)) (s : Shared) (σ : St) (H : Hp) (E : Value → Shared → Prop), Inv X pins σ H s → (∀ b ∈ fp, FpOk X pins H b) → tn i s.heap → J.go i H →
    wpAny (model P w) X.A (pyNext (.ref it)) (fun r s1 => ∃ u, r = some u ∧
      wpAny (model P w) X.A (letOwnedTupleGo tg (.ref it) u) (fun _ s2 => ∃ x H', Inv X pins σ H' s2 ∧ RelV x u ∧ J.yld i H x H' ∧ tn (i + 1) s2.heap ∧ ∀ b ∈ fp, H' b = none) E s1) E s
  done : ∀ (X : Cx), X.prog = P → X.w = w → X.K = K → X.calm = true → ∀ (i : Nat) (pins : List (Addr × Obj)) (s : Shared) (σ : St) (H : Hp) (E : Value → Shared → Prop), Inv X pins σ H s → (∀ b ∈ fp, FpOk X pins H b) → tn i s.heap → J.stop i H →
    wpAny (model P w) X.A (pyNext (.ref it)) (fun r s1 => r = none ∧ Inv X pins σ H s1) E s
  self : ∀ (A : Around) (i : Nat) (s : Shared) (Q : Value → Shared → Prop) (E : Value → Shared → Prop), tn i s.heap → Q (.ref it) s → wpAny (model P w) A (pyIter (.ref it)) Q E s
abbrev TI := St → Hp → (It → Hp → Prop) → Prop
def PIE (X : Cx) (pins : List (Addr × Obj)) (σ : St) (tg : Expr) (R : It → Hp → Prop) (itv : Value) (s2 : Shared) : Prop :=
  ∃ (it : Addr) (fp : List Addr) (tn : Nat → Heap → Prop) (J : It) (H' : Hp), itv = .ref it ∧ Inv X pins σ H' s2 ∧ Turn X.prog X.w X.K tg J fp it tn ∧ tn 0 s2.heap ∧ (∀ b ∈ fp, FpOk X pins H' b) ∧ R J H'
def PI (X : Cx) (tg iter : Expr) (wi : TI) : Prop :=
  ∀ (pins : List (Addr × Obj)) (s : Shared) (σ : St) (H : Hp) (R : It → Hp → Prop), Inv X pins σ H s → wi σ H R →
    wpAny (model X.prog X.w) X.A (eval iter X.env) (fun v s1 => wpAny (model X.prog X.w) X.A (pyIter v) (PIE X pins σ tg R) X.xe s1) X.xe s
theorem go_of {M : Model} {A : Around} {E : Value → Shared → Prop} {s : Shared} {tg : Expr} {it : Addr} {u : Value} {o : Obj} {n : String} {vs : Array Value} {Q : Unit → Shared → Prop} (ho : s.heap.get? it = some o) (hc : o.cls = .type n) (hd : o.data = .fields vs)
    (hn : ["enumerate", "zip", "dict_itemiterator", "dict_reverseitemiterator", "odict_iterator", "itertools.zip_longest", "itertools.pairwise"].contains n = false) (hQ : Q () s) : wpAny M A (letOwnedTupleGo tg (.ref it) u) Q E s := by
  unfold letOwnedTupleGo
  cases tg <;> first
    | exact wpAny_pure hQ
    | (cases u <;> first
        | exact wpAny_pure hQ
        | (refine wpAny_bind (wpAny_load ho ?_)
           rw [hc, hd]
           show wpAny M A (if (["enumerate", "zip", "dict_itemiterator", "dict_reverseitemiterator", "odict_iterator", "itertools.zip_longest", "itertools.pairwise"].contains n && vs[0]? == some (rawInt _)) = true then _ else _) Q E s
           rw [if_neg (by intro h; rw [hn, Bool.false_and] at h; cases h)]
           exact wpAny_pure hQ))
def Itl (K : PySem.W.Frag) (a : Addr) : It :=
  ⟨fun i H => ∃ xs x, SqL K H a xs ∧ xs[i]? = some x, fun i H x H' => H' = H ∧ ∀ xs, SqL K H a xs → xs[i]? = some x, fun i H => ∃ xs, SqL K H a xs ∧ xs.length ≤ i⟩
def Itt (K : PySem.W.Frag) (a : Addr) : It :=
  ⟨fun i H => ∃ xs x, SqT K H a xs ∧ xs[i]? = some x, fun i H x H' => H' = H ∧ ∀ xs, SqT K H a xs → xs[i]? = some x, fun i H => ∃ xs, SqT K H a xs ∧ xs.length ≤ i⟩
def Itr (lo : Int) (n : Nat) : It := ⟨fun i _ => i < n, fun i H x H' => H' = H ∧ x = .int (lo + i), fun i _ => n ≤ i⟩
theorem turn_list {P : Program} {w : World} {K : PySem.W.Frag} {tg : Expr} (a it : Addr) : Turn P w K tg (Itl K a) [it] it (fun i h => h.IsListIter it a i) where
  mem := by simp
  obj := fun i h st b hb => by
    have e : b = it := by simpa using hb
    subst e
    obtain ⟨o, e, c, d⟩ := st
    exact ⟨o, e, fun v z => by rw [d] at z; cases z⟩
  keep := fun i h h' st k => st.at fun o e => k it (by simp) o e
  item := by
    intro X hP hw hK hc i pins s σ H E I hf st hg
    subst hP hw hK
    obtain ⟨xs, x, hq, hx⟩ := hg
    obtain ⟨its, rv, p, hz⟩ := I.list hq
    obtain ⟨u, hu, ru⟩ := rv.get hx
    obtain ⟨f0, f1, f2, f3, f4, f5⟩ := hf it (by simp)
    refine wpAny_pyNext_list_item st p.isList (x := u) (by simpa using hu) fun h' st' sb => ?_
    have I1 : Inv X pins σ H { s with heap := h' } := I.turned (t' := s.toks) (fun b o hb e => (sb.2 b hb).trans e) f0 f1 f3 f4 f5
    obtain ⟨o, e, c, d⟩ := id st'
    exact ⟨u, rfl, go_of (s := { s with heap := h' }) e c d (by decide) ⟨x, H, I1, ru, ⟨rfl, fun ys hy => by rw [I.list_inj hy hq]; exact hx⟩, st', fun b hb => (hf b hb).1⟩⟩
  done := by
    intro X hP hw hK hc i pins s σ H E I hf st hg
    subst hP hw hK
    obtain ⟨xs, hq, hx⟩ := hg
    obtain ⟨its, rv, p, hz⟩ := I.list hq
    obtain ⟨f0, f1, f2, f3, f4, f5⟩ := hf it (by simp)
    have hl := rv.length
    exact wpAny_pyNext_list_end (I.ok.hd hc) st p.isList (by simp; omega) fun h' eb => ⟨rfl, I.turned (t' := s.toks) (fun b o hb e => eb b o hb e) f0 f1 f3 f4 f5⟩
  self := fun _ _ _ _ _ st h => wpAny_pyIter_listiter st h
theorem turn_tuple {P : Program} {w : World} {K : PySem.W.Frag} {tg : Expr} (a it : Addr) : Turn P w K tg (Itt K a) [it] it (fun i h => h.IsTupleIter it a i) where
  mem := by simp
  obj := fun i h st b hb => by
    have e : b = it := by simpa using hb
    subst e
    obtain ⟨o, e, c, d⟩ := st
    exact ⟨o, e, fun v z => by rw [d] at z; cases z⟩
  keep := fun i h h' st k => st.at fun o e => k it (by simp) o e
  item := by
    intro X hP hw hK hc i pins s σ H E I hf st hg
    subst hP hw hK
    obtain ⟨xs, x, hq, hx⟩ := hg
    obtain ⟨its, rv, p, hz⟩ := I.tuple hq
    obtain ⟨u, hu, ru⟩ := rv.get hx
    obtain ⟨f0, f1, f2, f3, f4, f5⟩ := hf it (by simp)
    refine wpAny_pyNext_tuple_item st (show s.heap.IsTuple a its.toArray from p) (x := u) (by simpa using hu) fun h' st' sb => ?_
    have I1 : Inv X pins σ H { s with heap := h' } := I.turned (t' := s.toks) (fun b o hb e => (sb.2 b hb).trans e) f0 f1 f3 f4 f5
    obtain ⟨o, e, c, d⟩ := id st'
    exact ⟨u, rfl, go_of (s := { s with heap := h' }) e c d (by decide) ⟨x, H, I1, ru, ⟨rfl, fun ys hy => by rw [I.tuple_inj hy hq]; exact hx⟩, st', fun b hb => (hf b hb).1⟩⟩
  done := by
    intro X hP hw hK hc i pins s σ H E I hf st hg
    subst hP hw hK
    obtain ⟨xs, hq, hx⟩ := hg
    obtain ⟨its, rv, p, hz⟩ := I.tuple hq
    obtain ⟨f0, f1, f2, f3, f4, f5⟩ := hf it (by simp)
    have hl := rv.length
    exact wpAny_pyNext_tuple_end (I.ok.hd hc) st (show s.heap.IsTuple a its.toArray from p) (by simp; omega) fun h' eb => ⟨rfl, I.turned (t' := s.toks) (fun b o hb e => eb b o hb e) f0 f1 f3 f4 f5⟩
  self := fun _ _ _ _ _ st h => wpAny_pyIter_tupleiter st h
theorem turn_range {P : Program} {w : World} {K : PySem.W.Frag} {tg : Expr} (it : Addr) (lo : Int) (n : Nat) : Turn P w K tg (Itr lo n) [it] it (fun i h => IsRangeIter h it (lo + (i : Nat) * 1) ((n : Int) - (i : Nat)) 1) where
  mem := by simp
  obj := fun i h st b hb => by
    have e : b = it := by simpa using hb
    subst e
    exact ⟨_, st, fun v z => by
      have z' : Data.fields _ = Data.cell v := z
      cases z'⟩
  keep := fun i h h' st k => k it (by simp) _ st
  item := by
    intro X hP hw hK hc i pins s σ H E I hf st hg
    subst hP hw hK
    obtain ⟨f0, f1, f2, f3, f4, f5⟩ := hf it (by simp)
    have W := Walks.range (prog := X.prog) (w := X.w) (I.ok.hd hc) it lo 1 n
    refine W.item i s _ _ hg st fun v h' tk hv st' kk => ?_
    obtain ⟨t, rfl⟩ := hv
    have I1 : Inv X pins σ H { s with heap := h', toks := tk } := I.turned (fun b o hb e => kk b o (by simpa using hb) e) f0 f1 f3 f4 f5
    refine ⟨_, rfl, go_of (s := { s with heap := h', toks := tk }) (n := "range_iterator") st' rfl rfl (by decide) ⟨.int (lo + i), H, I1, ⟨t, ?_⟩, ⟨rfl, rfl⟩, st', fun b hb => (hf b hb).1⟩⟩
    rw [Int.mul_one]
  done := by
    intro X hP hw hK hc i pins s σ H E I hf st hg
    subst hP hw hK
    obtain ⟨f0, f1, f2, f3, f4, f5⟩ := hf it (by simp)
    exact wpAny_pyNext_range_end (I.ok.hd hc) st (by have : n ≤ i := hg; omega) fun h' eb => ⟨rfl, I.turned (t' := s.toks) (fun b o hb e => eb b o hb e) f0 f1 f3 f4 f5⟩
  self := fun _ _ _ _ _ st h => wpAny_pyIter_rangeiter st h
end L2
namespace L2
open PySem PySem.Spec PyProof.Rows
section
variable {X : Cx} {tg : Expr}
def iList (K : PySem.W.Frag) (tl : TE) : TI := fun σ H R => tl σ H fun x H1 => ∃ a, x = .ref a ∧ (∃ xs, SqL K H1 a xs) ∧ R (Itl K a) H1
def iTup (K : PySem.W.Frag) (tl : TE) : TI := fun σ H R => tl σ H fun x H1 => ∃ a, x = .ref a ∧ (∃ xs, SqT K H1 a xs) ∧ R (Itt K a) H1
theorem pi_list {l : Expr} {tl : TE} (hl : PE X l tl) : PI X tg l (iList X.K tl) := by
  intro pins s σ H R I h
  refine thn (hl pins s σ H _ I h) fun v s1 ⟨x, H1, I1, r1, q1⟩ => ?_
  obtain ⟨a, e, ⟨xs, hq⟩, q⟩ := q1
  subst e
  cases r1
  obtain ⟨its, rv, p, hz⟩ := I1.list hq
  refine wpAny_pyIter_list p.isList ?_
  refine ⟨s1.heap.objs.size, [s1.heap.objs.size], _, _, H1, rfl, I1.kept (t' := s1.toks) fun b o e => Heap.get?_push_of_some _ e, turn_list a _, ⟨_, Heap.get?_push_size _ rfl, rfl, rfl⟩, fun b hb => ?_, q⟩
  have e : b = s1.heap.objs.size := by simpa using hb
  subst e
  exact I1.fpOk (Nat.le_refl _) (I1.hok.fresh (Nat.le_refl _))
theorem pi_tup {l : Expr} {tl : TE} (hl : PE X l tl) : PI X tg l (iTup X.K tl) := by
  intro pins s σ H R I h
  refine thn (hl pins s σ H _ I h) fun v s1 ⟨x, H1, I1, r1, q1⟩ => ?_
  obtain ⟨a, e, ⟨xs, hq⟩, q⟩ := q1
  subst e
  cases r1
  obtain ⟨its, rv, p, hz⟩ := I1.tuple hq
  refine wpAny_pyIter_tuple (show s1.heap.IsTuple a its.toArray from p) ?_
  refine ⟨s1.heap.objs.size, [s1.heap.objs.size], _, _, H1, rfl, I1.kept (t' := s1.toks) fun b o e => Heap.get?_push_of_some _ e, turn_tuple a _, ⟨_, Heap.get?_push_size _ rfl, rfl, rfl⟩, fun b hb => ?_, q⟩
  have e : b = s1.heap.objs.size := by simpa using hb
  subst e
  exact I1.fpOk (Nat.le_refl _) (I1.hok.fresh (Nat.le_refl _))
theorem range_it {pins : List (Addr × Obj)} {σ : St} {H : Hp} {s : Shared} {R : It → Hp → Prop} {E : Value → Shared → Prop} {lo hi : Int} {t u v : Tok} {tk : Nat} (I : Inv X pins σ H s) (h1 : -(2 ^ 62) ≤ lo) (h2 : lo < 2 ^ 62) (h3 : -(2 ^ 62) ≤ hi) (h4 : hi < 2 ^ 62)
    (q : R (Itr lo (hi - lo).toNat) H) : wpAny (model X.prog X.w) X.A (pyIter (.ref s.heap.objs.size)) (PIE X pins σ tg R) E { s with heap := s.heap.push { cls := .type "range", data := .fields #[.int lo t, .int hi u, .int 1 v] }, toks := tk } := by
  refine wpAny_pyIter_range (IsRange.new ..) (small_one h1 h2 h3 h4) ?_
  have I1 : Inv X pins σ H { s with heap := s.heap.push { cls := .type "range", data := .fields #[.int lo t, .int hi u, .int 1 v] }, toks := tk } := I.kept fun b o e => Heap.get?_push_of_some _ e
  refine ⟨(s.heap.push { cls := .type "range", data := .fields #[.int lo t, .int hi u, .int 1 v] }).objs.size, [(s.heap.push { cls := .type "range", data := .fields #[.int lo t, .int hi u, .int 1 v] }).objs.size], _, _, H, rfl,
    I1.kept (t' := tk) fun b o e => Heap.get?_push_of_some _ e, turn_range _ lo (hi - lo).toNat, ?_, fun b hb => ?_, q⟩
  · have e1 : lo + ((0 : Nat) : Int) * 1 = lo := by simp
    have e2 : (((hi - lo).toNat : Nat) : Int) - ((0 : Nat) : Int) = Builtin.Range.rangeSize lo hi 1 := by rw [rangeSize_one]; split <;> omega
    show IsRangeIter _ _ (lo + ((0 : Nat) : Int) * 1) ((((hi - lo).toNat : Nat) : Int) - ((0 : Nat) : Int)) 1
    rw [e1, e2]
    exact Heap.get?_push_size _ rfl
  · have e : b = (s.heap.push { cls := .type "range", data := .fields #[.int lo t, .int hi u, .int 1 v] }).objs.size := by simpa using hb
    subst e
    exact I1.fpOk (Nat.le_refl _) (I1.hok.fresh (Nat.le_refl _))
def iRng1 (ta : TA) : TI := fun σ H R => ta σ H fun vs H1 => ∃ j : Int, vs = [.int j] ∧ -(2 ^ 62) ≤ j ∧ j < 2 ^ 62 ∧ R (Itr 0 j.toNat) H1
def iRng2 (ta : TA) : TI := fun σ H R => ta σ H fun vs H1 => ∃ i j : Int, vs = [.int i, .int j] ∧ (-(2 ^ 62) ≤ i ∧ i < 2 ^ 62 ∧ -(2 ^ 62) ≤ j ∧ j < 2 ^ 62) ∧ R (Itr i (j - i).toNat) H1
theorem pi_range1 {a : Expr} {ta : TA} {p pos : Pos} (hg : Gl X "range") (hm : X.mg "range" = none) (ha : PA X [a] ta) (hs : starEach [a] X.env = [(false, eval a X.env)] := by rfl) : PI X tg (.Call (.Name "range" p) [a] [] pos) (iRng1 ta) := by
  intro pins s σ H R I h
  refine Call_ (ld_blt I hg hm boot_range (PyProof.Rows.callWith_type1 (thn (ha pos pins s σ H _ I h) fun us s1 ⟨vs, H1, I1, r1, q1⟩ => ?_) hs rfl))
  obtain ⟨j, e, q1, q2, q⟩ := q1
  subst e
  cases r1 with
  | cons r rr =>
    cases rr
    obtain ⟨t, rfl⟩ := r
    exact call_range_1 (range_it I1 (by omega) (by omega) q1 q2 (by simpa using q))
theorem pi_range2 {a b : Expr} {ta : TA} {p pos : Pos} (hg : Gl X "range") (hm : X.mg "range" = none) (ha : PA X [a, b] ta) (hs : starEach [a, b] X.env = [(false, eval a X.env), (false, eval b X.env)] := by rfl) (hs2 : starEach [b] X.env = [(false, eval b X.env)] := by rfl) :
    PI X tg (.Call (.Name "range" p) [a, b] [] pos) (iRng2 ta) := by
  intro pins s σ H R I h
  refine Call_ (ld_blt I hg hm boot_range (PyProof.Rows.callWith_type1 (thn (ha pos pins s σ H _ I h) fun us s1 ⟨vs, H1, I1, r1, q1⟩ => ?_) (by rw [hs, hs2]) (by rw [hs2]; rfl)))
  obtain ⟨i, j, e, ⟨q1, q2, q3, q4⟩, q⟩ := q1
  subst e
  cases r1 with
  | cons r rr =>
    cases rr with
    | cons r' rr =>
      cases rr
      obtain ⟨t, rfl⟩ := r
      obtain ⟨t', rfl⟩ := r'
      exact call_range_2 (range_it I1 q1 q2 q3 q4 q)
def tFor (wi : TI) (g : TG) (tb : TS) : TS := fun D σ H => wi σ H fun J H1 => ∃ W : Nat → Nat → St → Hp → Prop, (∃ m, W 0 m σ H1) ∧ ∀ i m σ H, W i m σ H →
  (J.stop i H ∧ D.nx σ H) ∨ (J.go i H ∧ ∃ N : St → Hp → Prop, (∀ σ' H', N σ' H' → ∃ m', m' < m ∧ W (i + 1) m' σ' H') ∧ ∀ x H', J.yld i H x H' → g x σ H' fun σ2 H2 => tb { D with nx := N, ct := N, bk := D.nx } σ2 H2)
def pinsAt (fp : List Addr) (h : Heap) : List (Addr × Obj) := fp.filterMap fun b => (h.get? b).map fun o => (b, o)
theorem mem_pinsAt {fp : List Addr} {h : Heap} {b : Addr} {o : Obj} (hb : b ∈ fp) (e : h.get? b = some o) : (b, o) ∈ pinsAt fp h := List.mem_filterMap.mpr ⟨b, hb, by rw [e]; rfl⟩
theorem of_pinsAt {fp : List Addr} {h : Heap} {p : Addr × Obj} (hp : p ∈ pinsAt fp h) : p.1 ∈ fp ∧ h.get? p.1 = some p.2 := by
  obtain ⟨b, hb, e⟩ := List.mem_filterMap.mp hp
  cases q : h.get? b with
  | none => rw [q] at e; cases e
  | some o =>
    rw [q] at e
    have e' : (b, o) = p := Option.some.inj e
    subst e'
    exact ⟨hb, q⟩
theorem Inv.pinned {pins : List (Addr × Obj)} {σ : St} {H : Hp} {s : Shared} {fp : List Addr} (I : Inv X pins σ H s) (hf : ∀ b ∈ fp, FpOk X pins H b) (ho : ∀ b ∈ fp, ∃ o, s.heap.get? b = some o ∧ ∀ v, o.data ≠ .cell v) : Inv X (pins ++ pinsAt fp s.heap) σ H s :=
  I.pins_of fun p hp => (List.mem_append.mp hp).elim (fun z => I.pin p (List.mem_append_right _ z)) fun z => by
    obtain ⟨hb, e⟩ := of_pinsAt z
    obtain ⟨f0, f1, f2, _⟩ := hf p.1 hb
    obtain ⟨o, e', d⟩ := ho p.1 hb
    rw [e] at e'; cases e'
    exact ⟨e, f0, f1, f2, d⟩
theorem Inv.unpinned {pins pl : List (Addr × Obj)} {σ : St} {H : Hp} {s : Shared} (I : Inv X (pins ++ pl) σ H s) : Inv X pins σ H s := I.pins_of fun p hp => I.pin p (List.mem_append_right _ (List.mem_append_left _ hp))
theorem ps_for {iter : Expr} {body : List Stmt} {wi : TI} {g : TG} {tb : TS} {pos : Pos} (hp : PassesOwn (model X.prog X.w) X.A X.env X.xe) (hc : X.calm = true) (hi : PI X tg iter wi) (hg : PG X tg g) (hb : PSs X body tb)
    (hs : ∀ x, foldedSetIterable iter X.env x = pure x := by intro _; rfl) : PS X (.For tg iter body [] pos) (tFor wi g tb) := by
  intro pins s σ H D I h
  refine wpAny_For (thn (hi pins s σ H _ I h) fun v s1 h1 => thn h1 fun itv s2 h2 => ?_) hs
  obtain ⟨it, fp, tn, J, H2, e, I2, T, st2, f2, W, ⟨m0, w0⟩, turn⟩ := h2
  subst e
  -- what stays true of the iterator's objects through the loop
  have stat : ∀ {H' : Hp}, (∀ b ∈ fp, H' b = none) → ∀ b ∈ fp, FpOk X pins H' b := fun hn b hb => ⟨hn b hb, (f2 b hb).2⟩
  refine codeAny_forLoop_any (fun n s' => ∃ i σ' H', Inv X pins σ' H' s' ∧ tn i s'.heap ∧ (∀ b ∈ fp, H' b = none) ∧ W i n σ' H') ?_ m0 ⟨0, σ, H2, I2, st2, fun b hb => (f2 b hb).1, w0⟩
  rintro n s3 ⟨i, σ3, H3, I3, st3, fr3, w3⟩
  rcases turn i n σ3 H3 w3 with ⟨stop, qn⟩ | ⟨go, N, hN, step⟩
  · refine wpAny_passesOwn hp (thn (T.done X rfl rfl rfl hc i pins s3 σ3 H3 X.xe I3 (stat fr3) st3 stop) fun r s4 ⟨hr, I4⟩ => ?_)
    subst hr
    exact wpAny_execs_nil ⟨σ3, H3, I4, qn⟩
  · refine wpAny_passesOwn hp (thn (T.item X rfl rfl rfl hc i pins s3 σ3 H3 X.xe I3 (stat fr3) st3 go) fun r s4 ⟨u, hr, h4⟩ => ?_)
    subst hr
    refine wpAny_passesOwn hp (thn h4 fun _ s5 ⟨x, H5, I5, r5, y5, st5, fr5⟩ => ?_)
    have I5' := I5.pinned (stat fr5) (T.obj _ _ st5)
    refine wpAny_passesOwn hp (thn (hg _ s5 σ3 H5 x u _ I5' r5 (step x H5 y5)) fun _ s6 ⟨σ6, H6, I6, q6⟩ => ?_)
    refine wpAny_passesOwn hp (thn (hb _ s6 σ6 H6 _ I6 q6) fun f s7 q7 => ?_)
    have again : ∀ {σ7 : St} {H7 : Hp}, Inv X (pins ++ pinsAt fp s5.heap) σ7 H7 s7 → N σ7 H7 → ∃ m, m < n ∧ ∃ i σ' H', Inv X pins σ' H' s7 ∧ tn i s7.heap ∧ (∀ b ∈ fp, H' b = none) ∧ W i m σ' H' := fun {σ7 H7} I7 n7 => by
      obtain ⟨m', hm, w7⟩ := hN σ7 H7 n7
      refine ⟨m', hm, i + 1, σ7, H7, I7.unpinned, T.keep _ _ _ st5 fun b hb o e => (I7.pin (b, o) (List.mem_append_right _ (List.mem_append_right _ (mem_pinsAt hb e)))).1, fun b hb => ?_, w7⟩
      obtain ⟨o, e, d⟩ := T.obj _ _ st5 b hb
      exact (I7.pin (b, o) (List.mem_append_right _ (List.mem_append_right _ (mem_pinsAt hb e)))).2.1
    cases f with
    | next => obtain ⟨σ7, H7, I7, n7⟩ := q7; exact again I7 n7
    | cont => obtain ⟨σ7, H7, I7, n7⟩ := q7; exact again I7 n7
    | brk => obtain ⟨σ7, H7, I7, q7⟩ := q7; exact ⟨σ7, H7, I7.unpinned, q7⟩
    | ret v => obtain ⟨x7, σ7, H7, I7, r7, q7⟩ := q7; exact ⟨x7, σ7, H7, I7.unpinned, r7, q7⟩
end
theorem for_list {K : PySem.W.Frag} {a : Addr} {xs : List V} {g : TG} {tb : TS} {D : Ends} {σ : St} {H : Hp} (Pv : Nat → St → Hp → Prop) (h0 : Pv 0 σ H) (hl : ∀ i σ H, i ≤ xs.length → Pv i σ H → SqL K H a xs)
    (hs : ∀ i x σ H, xs[i]? = some x → Pv i σ H → g x σ H fun σ2 H2 => tb { D with nx := Pv (i + 1), ct := Pv (i + 1), bk := D.nx } σ2 H2) (hd : ∀ σ H, Pv xs.length σ H → D.nx σ H) :
    ∃ W : Nat → Nat → St → Hp → Prop, (∃ m, W 0 m σ H) ∧ ∀ i m σ H, W i m σ H →
      ((Itl K a).stop i H ∧ D.nx σ H) ∨ ((Itl K a).go i H ∧ ∃ N : St → Hp → Prop, (∀ σ' H', N σ' H' → ∃ m', m' < m ∧ W (i + 1) m' σ' H') ∧ ∀ x H', (Itl K a).yld i H x H' → g x σ H' fun σ2 H2 => tb { D with nx := N, ct := N, bk := D.nx } σ2 H2) := by
  refine ⟨fun i m σ H => m = xs.length - i ∧ i ≤ xs.length ∧ Pv i σ H, ⟨xs.length, by simp, Nat.zero_le _, h0⟩, ?_⟩
  rintro i m σ H ⟨rfl, hi, p⟩
  have q := hl i σ H hi p
  by_cases hlt : i < xs.length
  · refine .inr ⟨⟨xs, xs[i], q, by simp [hlt]⟩, Pv (i + 1), fun σ' H' p' => ⟨xs.length - (i + 1), by omega, rfl, hlt, p'⟩, fun x H' y => ?_⟩
    obtain ⟨e, y⟩ := y
    subst e
    exact hs i x σ _ (y xs q) p
  · have e : i = xs.length := by omega
    subst e
    exact .inl ⟨⟨xs, q, Nat.le_refl _⟩, hd σ H p⟩
theorem for_tup {K : PySem.W.Frag} {a : Addr} {xs : List V} {g : TG} {tb : TS} {D : Ends} {σ : St} {H : Hp} (Pv : Nat → St → Hp → Prop) (h0 : Pv 0 σ H) (hl : ∀ i σ H, i ≤ xs.length → Pv i σ H → SqT K H a xs)
    (hs : ∀ i x σ H, xs[i]? = some x → Pv i σ H → g x σ H fun σ2 H2 => tb { D with nx := Pv (i + 1), ct := Pv (i + 1), bk := D.nx } σ2 H2) (hd : ∀ σ H, Pv xs.length σ H → D.nx σ H) :
    ∃ W : Nat → Nat → St → Hp → Prop, (∃ m, W 0 m σ H) ∧ ∀ i m σ H, W i m σ H →
      ((Itt K a).stop i H ∧ D.nx σ H) ∨ ((Itt K a).go i H ∧ ∃ N : St → Hp → Prop, (∀ σ' H', N σ' H' → ∃ m', m' < m ∧ W (i + 1) m' σ' H') ∧ ∀ x H', (Itt K a).yld i H x H' → g x σ H' fun σ2 H2 => tb { D with nx := N, ct := N, bk := D.nx } σ2 H2) := by
  refine ⟨fun i m σ H => m = xs.length - i ∧ i ≤ xs.length ∧ Pv i σ H, ⟨xs.length, by simp, Nat.zero_le _, h0⟩, ?_⟩
  rintro i m σ H ⟨rfl, hi, p⟩
  have q := hl i σ H hi p
  by_cases hlt : i < xs.length
  · refine .inr ⟨⟨xs, xs[i], q, by simp [hlt]⟩, Pv (i + 1), fun σ' H' p' => ⟨xs.length - (i + 1), by omega, rfl, hlt, p'⟩, fun x H' y => ?_⟩
    obtain ⟨e, y⟩ := y
    subst e
    exact hs i x σ _ (y xs q) p
  · have e : i = xs.length := by omega
    subst e
    exact .inl ⟨⟨xs, q, Nat.le_refl _⟩, hd σ H p⟩
theorem for_range {lo : Int} {n : Nat} {g : TG} {tb : TS} {D : Ends} {σ : St} {H : Hp} (Pv : Nat → St → Hp → Prop) (h0 : Pv 0 σ H)
    (hs : ∀ i σ H, i < n → Pv i σ H → g (.int (lo + i)) σ H fun σ2 H2 => tb { D with nx := Pv (i + 1), ct := Pv (i + 1), bk := D.nx } σ2 H2) (hd : ∀ σ H, Pv n σ H → D.nx σ H) :
    ∃ W : Nat → Nat → St → Hp → Prop, (∃ m, W 0 m σ H) ∧ ∀ i m σ H, W i m σ H →
      ((Itr lo n).stop i H ∧ D.nx σ H) ∨ ((Itr lo n).go i H ∧ ∃ N : St → Hp → Prop, (∀ σ' H', N σ' H' → ∃ m', m' < m ∧ W (i + 1) m' σ' H') ∧ ∀ x H', (Itr lo n).yld i H x H' → g x σ H' fun σ2 H2 => tb { D with nx := N, ct := N, bk := D.nx } σ2 H2) := by
  refine ⟨fun i m σ H => m = n - i ∧ i ≤ n ∧ Pv i σ H, ⟨n, by simp, Nat.zero_le _, h0⟩, ?_⟩
  rintro i m σ H ⟨rfl, hi, p⟩
  by_cases hlt : i < n
  · refine .inr ⟨hlt, Pv (i + 1), fun σ' H' p' => ⟨n - (i + 1), by omega, rfl, hlt, p'⟩, fun x H' y => ?_⟩
    obtain ⟨e, y⟩ := y
    subst e y
    exact hs i σ _ hlt p
  · have e : i = n := by omega
    subst e
    exact .inl ⟨Nat.le_refl _, hd σ H p⟩
theorem while_by {c : TT} {tb : TS} {D : Ends} {σ : St} {H : Hp} (Pv : St → Hp → Prop) (μ : St → Hp → Nat) (h0 : Pv σ H)
    (hs : ∀ σ H, Pv σ H → c σ H fun b H1 => if b = true then tb { D with nx := fun σ' H' => Pv σ' H' ∧ μ σ' H' < μ σ H, ct := fun σ' H' => Pv σ' H' ∧ μ σ' H' < μ σ H, bk := D.nx } σ H1 else D.nx σ H1)
    (mono : ∀ σ H Q Q', (∀ b H1, Q b H1 → Q' b H1) → c σ H Q → c σ H Q') : tWhile c tb D σ H := by
  refine ⟨fun m σ H => m = μ σ H ∧ Pv σ H, ⟨_, rfl, h0⟩, ?_⟩
  rintro m σ H ⟨rfl, p⟩
  refine mono σ H _ _ (fun b H1 q => ?_) (hs σ H p)
  cases b with
  | true => exact ⟨_, fun σ' H' ⟨p', l⟩ => ⟨_, l, rfl, p'⟩, q⟩
  | false => exact q
end L2
namespace L2
open PySem PySem.Spec PyProof.Rows
abbrev R2 := V → V → Hp → VK → Prop
def OpR (X : Cx) (f : Value → Value → Sem Value) (r : R2) : Prop :=
  ∀ (pins : List (Addr × Obj)) (s : Shared) (σ : St) (H : Hp) (x y : V) (v u : Value) (Q : VK), Inv X pins σ H s → RelV x v → RelV y u → r x y H Q →
    wpAny (model X.prog X.w) X.A (f v u) (EP X pins σ Q) X.xe s
def UnR (X : Cx) (f : Value → Sem Value) (r : V → Hp → VK → Prop) : Prop :=
  ∀ (pins : List (Addr × Obj)) (s : Shared) (σ : St) (H : Hp) (x : V) (v : Value) (Q : VK), Inv X pins σ H s → RelV x v → r x H Q →
    wpAny (model X.prog X.w) X.A (f v) (EP X pins σ Q) X.xe s
def CallR (X : Cx) (f : Value) (r : List V → Hp → VK → Prop) : Prop :=
  ∀ (pins : List (Addr × Obj)) (s : Shared) (σ : St) (H : Hp) (xs : List V) (us : List Value) (Q : VK), Inv X pins σ H s → Vals xs us → r xs H Q →
    wpAny (model X.prog X.w) X.A (call f us) (EP X pins σ Q) X.xe s
def TruR (X : Cx) (r : V → Hp → (Bool → Hp → Prop) → Prop) : Prop :=
  ∀ (pins : List (Addr × Obj)) (s : Shared) (σ : St) (H : Hp) (x : V) (v : Value) (Q : Bool → Hp → Prop), Inv X pins σ H s → RelV x v → r x H Q →
    wpAny (model X.prog X.w) X.A (truthy v) (TP X pins σ Q) X.xe s
def tOp (r : R2) (ta tb : TE) : TE := fun σ H Q => ta σ H fun x H1 => tb σ H1 fun y H2 => r x y H2 Q
def tUn (r : V → Hp → VK → Prop) (ta : TE) : TE := fun σ H Q => ta σ H fun x H1 => r x H1 Q
def rI (C : Int → Int → Prop) (g : Int → Int → V) : R2 := fun x y H Q => ∃ i j, x = .int i ∧ y = .int j ∧ C i j ∧ Q (g i j) H
def rI0 (g : Int → Int → V) : R2 := fun x y H Q => ∃ i j, x = .int i ∧ y = .int j ∧ Q (g i j) H
def rU (g : Int → V) : V → Hp → VK → Prop := fun x H Q => ∃ i, x = .int i ∧ Q (g i) H
section
variable {X : Cx} {a b c : Expr} {ta tb tc : TE} {pos : Pos}
theorem binT (ha : PE X a ta) (hb : PE X b tb) {pins : List (Addr × Obj)} {s : Shared} {σ : St} {H : Hp} {R : V → V → Hp → Prop} (I : Inv X pins σ H s)
    (h : ta σ H fun x H1 => tb σ H1 fun y H2 => R x y H2) {Q : Value → Shared → Prop} {f : Value → Value → Sem Value}
    (hf : ∀ v u s2 x y H2, Inv X pins σ H2 s2 → RelV x v → RelV y u → R x y H2 → wpAny (model X.prog X.w) X.A (f v u) Q X.xe s2) :
    wpAny (model X.prog X.w) X.A (eval a X.env) (fun v s₁ => wpAny (model X.prog X.w) X.A (eval b X.env) (fun u s₂ => wpAny (model X.prog X.w) X.A (f v u) Q X.xe s₂) X.xe s₁) X.xe s := by
  refine thn (ha pins s σ H _ I h) fun v s1 ⟨x, H1, I1, r1, q1⟩ => ?_
  refine thn (hb pins s1 σ H1 _ I1 q1) fun u s2 ⟨y, H2, I2, r2, q2⟩ => ?_
  exact hf v u s2 x y H2 I2 r1 r2 q2
theorem pe_op {op : Operator} {r : R2} (ho : OpR X (binaryOp op) r) (ha : PE X a ta) (hb : PE X b tb) : PE X (.BinOp a op b pos) (tOp r ta tb) := by
  intro pins s σ H Q I h
  exact wpAny_BinOp (binT ha hb I h fun v u s2 x y H2 I2 rx ry q => ho pins s2 σ H2 x y v u Q I2 rx ry q)
theorem pe_un {op : UnaryOp} {r : V → Hp → VK → Prop} (ho : UnR X (unaryOp op) r) (ha : PE X a ta) : PE X (.UnaryOp op a pos) (tUn r ta) := by
  intro pins s σ H Q I h
  exact UnaryOp_ (thn (ha pins s σ H _ I h) fun v s1 ⟨x, H1, I1, r1, q1⟩ => ho pins s1 σ H1 x v Q I1 r1 q1)
theorem opI {f : Value → Value → Sem Value} {C : Int → Int → Prop} {g : Int → Int → Int}
    (rule : ∀ (i j : Int) (t u : Tok) (s : Shared) (Q : Value → Shared → Prop) (E : Value → Shared → Prop), C i j → Q (.int (g i j) s.toks) { s with toks := s.toks + 1 } → wpAny (model X.prog X.w) X.A (f (.int i t) (.int j u)) Q E s) :
    OpR X f (rI C fun i j => .int (g i j)) := by
  intro pins s σ H x y v u Q I rx ry h
  obtain ⟨i, j, rfl, rfl, hc, q⟩ := h
  obtain ⟨t, rfl⟩ := rx
  obtain ⟨t', rfl⟩ := ry
  exact rule i j t t' s _ _ hc ⟨.int (g i j), H, I.tok _, ⟨_, rfl⟩, q⟩
theorem opI0 {f : Value → Value → Sem Value} {g : Int → Int → Int}
    (rule : ∀ (i j : Int) (t u : Tok) (s : Shared) (Q : Value → Shared → Prop) (E : Value → Shared → Prop), Q (.int (g i j) s.toks) { s with toks := s.toks + 1 } → wpAny (model X.prog X.w) X.A (f (.int i t) (.int j u)) Q E s) :
    OpR X f (rI0 fun i j => .int (g i j)) := by
  intro pins s σ H x y v u Q I rx ry h
  obtain ⟨i, j, rfl, rfl, q⟩ := h
  obtain ⟨t, rfl⟩ := rx
  obtain ⟨t', rfl⟩ := ry
  exact rule i j t t' s _ _ ⟨.int (g i j), H, I.tok _, ⟨_, rfl⟩, q⟩
theorem opB0 {f : Value → Value → Sem Value} {g : Int → Int → Bool}
    (rule : ∀ (i j : Int) (t u : Tok) (s : Shared) (Q : Value → Shared → Prop) (E : Value → Shared → Prop), Q (.bool (g i j)) s → wpAny (model X.prog X.w) X.A (f (.int i t) (.int j u)) Q E s) :
    OpR X f (rI0 fun i j => .bl (g i j)) := by
  intro pins s σ H x y v u Q I rx ry h
  obtain ⟨i, j, rfl, rfl, q⟩ := h
  obtain ⟨t, rfl⟩ := rx
  obtain ⟨t', rfl⟩ := ry
  exact rule i j t t' s _ _ ⟨.bl (g i j), H, I, rfl, q⟩
def CPow (i j : Int) : Prop := 0 ≤ j ∧ j ≤ 1000000 ∧ i.natAbs < 2 ^ 64
def CMul (i j : Int) : Prop := (-(2 ^ 64) < i ∧ i < 2 ^ 64) ∨ (-(2 ^ 64) < j ∧ j < 2 ^ 64)
theorem CMul.ok {i j : Int} (h : CMul i j) : IntMulOk i j := by
  rcases h with ⟨h1, h2⟩ | ⟨h1, h2⟩
  · exact .of_left (intBits_le_64 h1 h2)
  · exact .of_right (intBits_le_64 h1 h2)
theorem op_add : OpR X (binaryOp .Add) (rI0 fun i j => .int (i + j)) := opI0 fun _ _ _ _ _ _ _ q => add_int q
theorem op_sub : OpR X (binaryOp .Sub) (rI0 fun i j => .int (i - j)) := opI0 fun _ _ _ _ _ _ _ q => sub_int q
theorem op_mul : OpR X (binaryOp .Mult) (rI CMul fun i j => .int (i * j)) := opI fun _ _ _ _ _ _ _ hc q => mul_int q hc.ok
theorem op_mod : OpR X (binaryOp .Mod) (rI (fun _ j => 0 < j) fun i j => .int (i % j)) := opI fun i j _ _ _ _ _ hc q => by
  have h1 : (0 : Int) < j := hc
  exact mod_int' (by omega) (by rw [Int.fmod_eq_emod_of_nonneg i (by omega)]; exact q)
theorem op_pow : OpR X (binaryOp .Pow) (rI CPow fun i j => .int (i ^ j.toNat)) := opI fun _ _ _ _ _ _ _ hc q => pow_int_small hc.1 hc.2.1 hc.2.2 q
theorem unI {f : Value → Sem Value} {g : Int → Int}
    (rule : ∀ (i : Int) (t : Tok) (s : Shared) (Q : Value → Shared → Prop) (E : Value → Shared → Prop), Q (.int (g i) s.toks) { s with toks := s.toks + 1 } → wpAny (model X.prog X.w) X.A (f (.int i t)) Q E s) :
    UnR X f (rU fun i => .int (g i)) := by
  intro pins s σ H x v Q I rx h
  obtain ⟨i, rfl, q⟩ := h
  obtain ⟨t, rfl⟩ := rx
  exact rule i t s _ _ ⟨.int (g i), H, I.tok _, ⟨_, rfl⟩, q⟩
theorem un_neg : UnR X (unaryOp .USub) (rU fun i => .int (-i)) := unI fun _ _ _ _ _ q => neg_int q
end
def scal : V → V → Bool
  | .non, .non => true | .non, .int _ => true | .int _, .non => true | .non, .bl _ => true | .bl _, .non => true | .non, .str _ => true | .str _, .non => true
  | .int _, .int _ => true | .bl _, .bl _ => true | .str _, .str _ => true | .byt _, .byt _ => true
  | .int _, .str _ => true | .str _, .int _ => true | .bl _, .str _ => true | .str _, .bl _ => true
  | _, _ => false
def rEq : R2 := fun x y H Q => scal x y = true ∧ Q (.bl (decide (x = y))) H
def rNe : R2 := fun x y H Q => scal x y = true ∧ Q (.bl (!decide (x = y))) H
theorem dec_int {i j : Int} : decide (V.int i = V.int j) = (i == j) := by
  rw [Bool.eq_iff_iff]
  simp
theorem dec_bl {i j : Bool} : decide (V.bl i = V.bl j) = (i == j) := by
  rw [Bool.eq_iff_iff]
  simp
theorem dec_str {i j : Str} : decide (V.str i = V.str j) = (i == j) := by
  rw [Bool.eq_iff_iff]
  simp
theorem dec_byt {i j : Array UInt8} : decide (V.byt i = V.byt j) = (i.toList == j.toList) := by
  rw [Bool.eq_iff_iff]
  cases i
  cases j
  simp
section
variable {X : Cx} {a b c : Expr} {ta tb tc : TE} {pos : Pos}
theorem fin_bl {pins : List (Addr × Obj)} {σ : St} {H : Hp} {s : Shared} {Q : VK} {k k' : Bool} (I : Inv X pins σ H s) (q : Q (.bl k) H) (e : k = k') : EP X pins σ Q (.bool k') s := by
  subst e
  exact ⟨.bl k, H, I, rfl, q⟩
theorem op_eq : OpR X (compareOp .Eq) rEq := by
  intro pins s σ H x y v u Q I rx ry h
  obtain ⟨hs, q⟩ := h
  cases x with
  | non =>
    cases rx
    cases y with
    | non => cases ry; exact PySem.EqNone.eq_none_none (fin_bl I q (by simp))
    | bl j => cases ry; exact PySem.EqNone.eq_none_bool (fin_bl I q (by simp))
    | int j => obtain ⟨t', rfl⟩ := ry; exact PySem.EqNone.eq_none_int (fin_bl I q (by simp))
    | str j => obtain ⟨t', rfl⟩ := ry; exact PySem.EqNone.eq_none_str (fin_bl I q (by simp))
    | _ => exact absurd (show false = true from hs) Bool.false_ne_true
  | bl i =>
    cases rx
    cases y with
    | non => cases ry; exact PySem.EqNone.eq_bool_none (fin_bl I q (by simp))
    | bl j => cases ry; exact eq_bool (fin_bl I q dec_bl)
    | str j => obtain ⟨t', rfl⟩ := ry; exact PySem.EqMixed.eq_bool_str (fin_bl I q (by simp))
    | _ => exact absurd (show false = true from hs) Bool.false_ne_true
  | int i =>
    obtain ⟨t, rfl⟩ := rx
    cases y with
    | non => cases ry; exact PySem.EqNone.eq_int_none (fin_bl I q (by simp))
    | int j => obtain ⟨t', rfl⟩ := ry; exact eq_int (fin_bl I q dec_int)
    | str j => obtain ⟨t', rfl⟩ := ry; exact PySem.EqMixed.eq_int_str (fin_bl I q (by simp))
    | _ => exact absurd (show false = true from hs) Bool.false_ne_true
  | str i =>
    obtain ⟨t, rfl⟩ := rx
    cases y with
    | non => cases ry; exact PySem.EqNone.eq_str_none (fin_bl I q (by simp))
    | bl j => cases ry; exact PySem.EqMixed.eq_str_bool (fin_bl I q (by simp))
    | int j => obtain ⟨t', rfl⟩ := ry; exact PySem.EqMixed.eq_str_int (fin_bl I q (by simp))
    | str j => obtain ⟨t', rfl⟩ := ry; exact eq_str (fin_bl I q dec_str)
    | _ => exact absurd (show false = true from hs) Bool.false_ne_true
  | byt i =>
    obtain ⟨t, rfl⟩ := rx
    cases y with
    | byt j => obtain ⟨t', rfl⟩ := ry; exact PySem.W.eq_bytes (fin_bl I q dec_byt)
    | _ => exact absurd (show false = true from hs) Bool.false_ne_true
  | _ => cases y <;> exact absurd (show false = true from hs) Bool.false_ne_true
theorem op_ne : OpR X (compareOp .NotEq) rNe := by
  intro pins s σ H x y v u Q I rx ry h
  obtain ⟨hs, q⟩ := h
  cases x with
  | non =>
    cases rx
    cases y with
    | non => cases ry; exact PySem.EqNone.ne_none_none (fin_bl I q (by simp))
    | bl j => cases ry; exact PySem.EqNone.ne_none_bool (fin_bl I q (by simp))
    | int j => obtain ⟨t', rfl⟩ := ry; exact PySem.EqNone.ne_none_int (fin_bl I q (by simp))
    | str j => obtain ⟨t', rfl⟩ := ry; exact PySem.EqNone.ne_none_str (fin_bl I q (by simp))
    | _ => exact absurd (show false = true from hs) Bool.false_ne_true
  | bl i =>
    cases rx
    cases y with
    | non => cases ry; exact PySem.EqNone.ne_bool_none (fin_bl I q (by simp))
    | bl j => cases ry; exact ne_bool (fin_bl I q (congrArg not dec_bl))
    | str j => obtain ⟨t', rfl⟩ := ry; exact PySem.EqMixed.ne_bool_str (fin_bl I q (by simp))
    | _ => exact absurd (show false = true from hs) Bool.false_ne_true
  | int i =>
    obtain ⟨t, rfl⟩ := rx
    cases y with
    | non => cases ry; exact PySem.EqNone.ne_int_none (fin_bl I q (by simp))
    | int j => obtain ⟨t', rfl⟩ := ry; exact ne_int (fin_bl I q (congrArg not dec_int))
    | str j => obtain ⟨t', rfl⟩ := ry; exact PySem.EqMixed.ne_int_str (fin_bl I q (by simp))
    | _ => exact absurd (show false = true from hs) Bool.false_ne_true
  | str i =>
    obtain ⟨t, rfl⟩ := rx
    cases y with
    | non => cases ry; exact PySem.EqNone.ne_str_none (fin_bl I q (by simp))
    | bl j => cases ry; exact PySem.EqMixed.ne_str_bool (fin_bl I q (by simp))
    | int j => obtain ⟨t', rfl⟩ := ry; exact PySem.EqMixed.ne_str_int (fin_bl I q (by simp))
    | str j => obtain ⟨t', rfl⟩ := ry; exact ne_str (fin_bl I q (congrArg not dec_str))
    | _ => exact absurd (show false = true from hs) Bool.false_ne_true
  | byt i =>
    obtain ⟨t, rfl⟩ := rx
    cases y with
    | byt j => obtain ⟨t', rfl⟩ := ry; exact PySem.W.ne_bytes (fin_bl I q (congrArg not dec_byt))
    | _ => exact absurd (show false = true from hs) Bool.false_ne_true
  | _ => cases y <;> exact absurd (show false = true from hs) Bool.false_ne_true
theorem op_lt : OpR X (compareOp .Lt) (rI0 fun i j => .bl (decide (i < j))) := opB0 fun _ _ _ _ _ _ _ q => lt_int q
theorem op_le : OpR X (compareOp .LtE) (rI0 fun i j => .bl (decide (i ≤ j))) := opB0 fun _ _ _ _ _ _ _ q => le_int q
theorem op_gt : OpR X (compareOp .Gt) (rI0 fun i j => .bl (decide (j < i))) := opB0 fun _ _ _ _ _ _ _ q => gt_int q
theorem op_ge : OpR X (compareOp .GtE) (rI0 fun i j => .bl (decide (j ≤ i))) := opB0 fun _ _ _ _ _ _ _ q => ge_int q
theorem nomark (b : Expr) {op : CmpOp} (h : op ≠ .In := by decide) (h2 : op ≠ .NotIn := by decide) : behindInMarks op b = false := by
  have e1 : (op == CmpOp.In) = false := by cases op <;> first | rfl | exact absurd rfl h
  have e2 : (op == CmpOp.NotIn) = false := by cases op <;> first | rfl | exact absurd rfl h2
  cases b <;> simp [behindInMarks, e1, e2]
theorem pe_cmpR {op : CmpOp} {r : R2} (ho : OpR X (compareOp op) r) (ha : PE X a ta) (hb : PE X b tb) (hm : behindInMarks op b = false) : PE X (.Compare a [op] [b] pos) (tOp r ta tb) := by
  intro pins s σ H Q I h
  exact wpAny_Compare1 (binT ha hb I h fun v u s2 x y H2 I2 rx ry q => ho pins s2 σ H2 x y v u Q I2 rx ry q) hm
def tTest (t : TE) : TT := fun σ H Q => t σ H fun x H' => ∃ k, x = .bl k ∧ Q k H'
theorem pt_cmpR {op : CmpOp} {r : R2} (ho : OpR X (compareOp op) r) (ha : PE X a ta) (hb : PE X b tb) (hm : behindInMarks op b = false) : PT X (.Compare a [op] [b] pos) (tTest (tOp r ta tb)) := by
  intro pins s σ H Q I h
  refine wpAny_isTrue_Compare1 (thn (ha pins s σ H _ I h) fun v s1 ⟨x, H1, I1, r1, q1⟩ => thn (hb pins s1 σ H1 _ I1 q1) fun u s2 ⟨y, H2, I2, r2, q2⟩ =>
    thn (ho pins s2 σ H2 x y v u _ I2 r1 r2 q2) fun c s3 ⟨z, H3, I3, r3, k, e, q3⟩ => ?_) hm
  subst e
  cases r3
  exact wpAny_truthy_bool ⟨H3, I3, q3⟩
def tChain (r r' : R2) (ta tb tc : TE) : TE := fun σ H Q => ta σ H fun x H1 => tb σ H1 fun y H2 => r x y H2 fun z H3 => ∃ k, z = .bl k ∧
  (if k = true then tc σ H3 fun w' H4 => r' y w' H4 Q else Q (.bl false) H3)
theorem pe_chain {op op' : CmpOp} {r r' : R2} (ho : OpR X (compareOp op) r) (ho' : OpR X (compareOp op') r') (ha : PE X a ta) (hb : PE X b tb) (hc : PE X c tc)
    (hm : lastMarks [op, op'] [b, c] = false := by with_unfolding_all rfl) : PE X (.Compare a [op, op'] [b, c] pos) (tChain r r' ta tb tc) := by
  intro pins s σ H Q I h
  refine Compare_chain (thn (ha pins s σ H _ I h) fun v s1 ⟨x, H1, I1, r1, q1⟩ => chain_link (thn (hb pins s1 σ H1 _ I1 q1) fun u s2 ⟨y, H2, I2, r2, q2⟩ =>
    thn (ho pins s2 σ H2 x y v u _ I2 r1 r2 q2) fun d s3 ⟨z, H3, I3, r3, k, e, q3⟩ => ?_)) hm
  subst e
  cases r3
  refine wpAny_truthy_bool ?_
  cases k with
  | false => exact ite_ff ⟨.bl false, H3, I3, rfl, q3⟩
  | true => exact ite_tt (chain_last (thn (hc pins s3 σ H3 _ I3 q3) fun w' s4 ⟨z', H4, I4, r4, q4⟩ => ho' pins s4 σ H4 y z' u w' Q I4 r2 r4 q4))
def TruV (K : PySem.W.Frag) (x : V) (H : Hp) (k : Bool) : Prop :=
  match x with
  | .non => k = false
  | .bl b => k = b
  | .int i => k = (i != 0)
  | .str y => y.length ≤ sizeLine ∧ k = ((y.length : Int) != 0)
  | .byt y => y.size ≤ sizeLine ∧ k = ((y.size : Int) != 0)
  | .ref p => (∃ xs, SqL K H p xs ∧ k = !xs.isEmpty) ∨ (∃ xs, SqT K H p xs ∧ k = !xs.isEmpty) ∨ ∃ kvs, H p = some (.dK kvs) ∧ k = !kvs.isEmpty
  | _ => False
theorem isEmpty_kv {κ : Type} {kvs : List (κ × V)} {vs : List (κ × Value)} (r : KV kvs vs) : (!vs.isEmpty) = !kvs.isEmpty := by
  cases r <;> rfl
theorem isEmpty_of {xs : List V} {its : List Value} (r : Vals xs its) : (!its.toArray.isEmpty) = !xs.isEmpty := by
  cases r <;> simp
theorem line63 : (sizeLine : Nat) < 2 ^ 63 := by rw [sizeLine_eq]; decide
theorem tru_ok : TruR X (fun x H Q => ∃ k, TruV X.K x H k ∧ Q k H) := by
  intro pins s σ H x v Q I rx h
  obtain ⟨k, e, q⟩ := h
  have hl := line63
  have hs : sizeLine = 16777216 := sizeLine_eq
  cases x with
  | non =>
    cases rx
    have e' : k = false := e
    subst e'
    exact truthy_none ⟨H, I, q⟩
  | bl b =>
    cases rx
    have e' : k = b := e
    subst e'
    exact wpAny_truthy_bool ⟨H, I, q⟩
  | int i =>
    obtain ⟨t, rfl⟩ := rx
    have e' : k = (i != 0) := e
    subst e'
    exact PySem.P.truthy_int ⟨H, I, q⟩
  | str y =>
    obtain ⟨t, rfl⟩ := rx
    obtain ⟨hy, e'⟩ : y.length ≤ sizeLine ∧ k = ((y.length : Int) != 0) := e
    subst e'
    exact PySem.P.truthy_str (by omega) ⟨H, I.tok _, q⟩
  | byt y =>
    obtain ⟨t, rfl⟩ := rx
    obtain ⟨hy, e'⟩ : y.size ≤ sizeLine ∧ k = ((y.size : Int) != 0) := e
    subst e'
    exact PySem.W.truthy_bytes (by omega) ⟨H, I.tok _, q⟩
  | ref p =>
    cases rx
    have e' : (∃ xs, SqL X.K H p xs ∧ k = !xs.isEmpty) ∨ (∃ xs, SqT X.K H p xs ∧ k = !xs.isEmpty) ∨ ∃ kvs, H p = some (.dK kvs) ∧ k = !kvs.isEmpty := e
    rcases e' with ⟨xs, hx, e'⟩ | ⟨xs, hx, e'⟩ | ⟨kvs, hx, e'⟩
    · subst e'
      obtain ⟨its, r, pl, hz⟩ := I.list hx
      have hlen := r.length
      exact wpAny_truthy_list pl.isList (by simp only [List.size_toArray]; omega) ⟨H, I.tok _, by rw [isEmpty_of r]; exact q⟩
    · subst e'
      obtain ⟨its, r, pl, hz⟩ := I.tuple hx
      have hlen := r.length
      exact truthy_tuple pl (by simp only [List.size_toArray]; omega) ⟨H, I.tok _, by rw [isEmpty_of r]; exact q⟩
    · subst e'
      obtain ⟨hz, hS, vs, r, m⟩ : kvs.length ≤ sizeLine ∧ (p == sysModules) = false ∧ ∃ vs, KV kvs vs ∧ s.heap.DictOf (mixKind X.prog X.w) p vs := I.hok p _ hx
      have hlen : kvs.length = vs.length := Paired.length r
      exact wpAny_truthy_dict hS m (by omega) ⟨H, I.tok _, by rw [isEmpty_kv r]; exact q⟩
  | _ => exact (show False from e).elim
theorem pt_truth (ha : PE X a ta) (he : ∀ whole, isTrue a X.env whole = (do let v ← whole; standAt a.pos; holding [v] (truthy v))) :
    PT X a (fun σ H Q => ta σ H fun x H' => ∃ k, TruV X.K x H' k ∧ Q k H') := by
  intro pins s σ H Q I h
  exact isTrue_plain (thn (ha pins s σ H _ I h) fun v s1 ⟨x, H1, I1, r1, q1⟩ => tru_ok pins s1 σ H1 x v Q I1 r1 q1) (he _)
theorem vals1 {x : V} {us : List Value} (r : Vals [x] us) : ∃ u, us = [u] ∧ RelV x u := by
  cases r with
  | cons r1 r2 => cases r2; exact ⟨_, rfl, r1⟩
theorem vals2 {x y : V} {us : List Value} (r : Vals [x, y] us) : ∃ u w', us = [u, w'] ∧ RelV x u ∧ RelV y w' := by
  cases r with
  | cons r1 r2 =>
    cases r2 with
    | cons r3 r4 => cases r4; exact ⟨_, _, rfl, r1, r3⟩
theorem call_max2 (hc : X.calm = true) : CallR X (.builtin "max") (fun xs H Q => ∃ i j, xs = [.int i, .int j] ∧ Q (.int (if j > i then j else i)) H) := by
  intro pins s σ H xs us Q I r h
  obtain ⟨i, j, rfl, q⟩ := h
  obtain ⟨u, w', rfl, ⟨t, rfl⟩, ⟨t', rfl⟩⟩ := vals2 r
  refine max_two_ints (I.ok.hd hc) fun h' tk k => ⟨_, H, I.kept k, ?_, q⟩
  by_cases hj : j > i
  · rw [if_pos hj, if_pos hj]; exact ⟨_, rfl⟩
  · rw [if_neg hj, if_neg hj]; exact ⟨_, rfl⟩
theorem call_min2 (hc : X.calm = true) : CallR X (.builtin "min") (fun xs H Q => ∃ i j, xs = [.int i, .int j] ∧ Q (.int (if j < i then j else i)) H) := by
  intro pins s σ H xs us Q I r h
  obtain ⟨i, j, rfl, q⟩ := h
  obtain ⟨u, w', rfl, ⟨t, rfl⟩, ⟨t', rfl⟩⟩ := vals2 r
  refine min_two_ints (I.ok.hd hc) fun h' tk k => ⟨_, H, I.kept k, ?_, q⟩
  by_cases hj : j < i
  · rw [if_pos hj, if_pos hj]; exact ⟨_, rfl⟩
  · rw [if_neg hj, if_neg hj]; exact ⟨_, rfl⟩
theorem call_int1 : CallR X (.type "int") (fun xs H Q => (∃ i, xs = [.int i] ∧ Q (.int i) H) ∨ ∃ k, xs = [.bl k] ∧ Q (.int (if k then 1 else 0)) H) := by
  intro pins s σ H xs us Q I r h
  rcases h with ⟨i, rfl, q⟩ | ⟨k, rfl, q⟩
  · obtain ⟨u, rfl, t, rfl⟩ := vals1 r
    exact call_int_int ⟨.int i, H, I, ⟨_, rfl⟩, q⟩
  · obtain ⟨u, rfl, r1⟩ := vals1 r
    cases r1
    exact call_int_bool ⟨.int (if k then 1 else 0), H, I.tok _, ⟨_, rfl⟩, q⟩
end
end L2
namespace L2
open PySem PySem.Spec PyProof.Rows
structure ObjM (h : Heap) (x dx C : Addr) (mA : Str → Option Value) : Prop where
  obj : h.get? x = some (PySem.W.instObj C dx)
  ns : h.Ns1 dx mA
  ne : dx ≠ x
theorem lookIn_ns {h : Heap} {dx : Addr} {mA : Str → Option Value} (n : h.Ns1 dx mA) : ∃ od, h.get? dx = some od ∧ ∀ name, PySem.W.lookIn name od = some (mA name) := by
  obtain ⟨o, es, ep, ho, hd, hk, _, hm⟩ := n
  refine ⟨o, ho, fun name => ?_⟩
  have e := hm name
  unfold nsFind findBy at e
  rw [← Array.find?_toList] at e
  unfold PySem.W.lookIn
  rw [hd]
  dsimp only
  split
  · rename_i y q
    rw [q] at e
    exact congrArg some e
  · rename_i q
    rw [q] at e
    have a : es.toList.any (·.refKey) = false := by
      rw [List.any_eq_false]
      intro y hy
      obtain ⟨z, t, hkey⟩ := hk y (Array.mem_toList_iff.mp hy)
      simp [DictEntry.refKey, hkey]
    have a' : ¬ es.toList.any (·.refKey) = true := by rw [a]; exact Bool.false_ne_true
    rw [if_neg a']
    exact congrArg some e
theorem ObjM.look {h : Heap} {x dx C : Addr} {mA : Str → Option Value} (I : ObjM h x dx C mA) : ∃ od, PySem.W.InstAt h x (PySem.W.instObj C dx) C (some od) ∧ ∀ name, PySem.W.lookIn name od = some (mA name) :=
  let ⟨od, ho, hl⟩ := lookIn_ns I.ns
  ⟨od, ⟨I.obj, rfl, rfl, ho⟩, hl⟩
section
variable {prog : Program} {w : World} {A : Around} {E : Value → Shared → Prop} {s : Shared} {K : PySem.W.Frag} {x dx C f : Addr} {mA : Str → Option Value} {name : Str} {v : Value}
end
theorem RelO.some_of {v : V} {o : Option Value} (r : RelO (some v) o) : ∃ u, o = some u ∧ RelV v u := by
  cases o with
  | none => exact (show False from r).elim
  | some u => exact ⟨u, rfl, r⟩
section
variable {P : Program} {w : World} {H H' : Hp} {h h' : Heap} {a C dx : Addr} {fs fs' : List (Str × V)}
theorem ins_get (hok : HOk P w H h) (e : H a = some (.ins C dx fs)) : ∃ mA, ObjM h a dx C mA ∧ (∀ f, RelO (fs.lookup f) (mA f)) ∧ PySem.Within mA (fs.map (·.1)) ∧ fs.length ≤ 1000 ∧ H dx = some (.own a) := by
  obtain ⟨d, z, ne, ob, mA, n, r, q⟩ := (show ObjOk P w H h a (.ins C dx fs) from hok a _ e)
  exact ⟨mA, ⟨ob, n, ne⟩, r, q, z, d⟩
end
structure Cls (K : PySem.W.Frag) (C : Addr) : Prop where
  pg : PySem.W.plainGet K C Str.empty = true
  hd : PySem.W.hasDictIn K C = true
  po : PySem.W.plainOver K C = true
  sa : PySem.W.findIn K (.ref C) "__setattr__" = some (some (.builtin "object.__setattr__"))
theorem Cls.get {K : PySem.W.Frag} {C : Addr} (c : Cls K C) (f : Str) : PySem.W.plainGet K C f = true := c.pg
section
variable {X : Cx} {pins : List (Addr × Obj)} {σ : St} {H : Hp} {s : Shared} {a C dx : Addr} {fs : List (Str × V)} {f : Str} {v : V} {A : Around} {E : Value → Shared → Prop}
end
section
variable {X : Cx} {o e value : Expr} {f : Str} {pos pos' tpos : Pos} {ta tv : TE}
end
section
variable {X : Cx} {pins : List (Addr × Obj)} {σ : St} {H : Hp} {s : Shared} {A : Around} {E : Value → Shared → Prop} {Q : Value → Shared → Prop} {c : Value} {b : Bool}
inductive TyOf (K : PySem.W.Frag) (H : Hp) : V → Value → Prop where
  | non : TyOf K H .non (.type "NoneType")
  | bl (x : Bool) : TyOf K H (.bl x) (.type "bool")
  | int (i : Int) : TyOf K H (.int i) (.type "int")
  | str (x : Str) : TyOf K H (.str x) (.type "str")
  | flt (x : UInt64) : TyOf K H (.flt x) (.type "float")
  | lst {a : Addr} {xs : List V} (e : H a = some (.lst xs)) : TyOf K H (.ref a) (.type "list")
  | frz {a : Addr} {o : Obj} {xs : List V} (e : H a = some (.frz o (.lst xs))) : TyOf K H (.ref a) (.type "list")
  | tup {a : Addr} {xs : List V} (e : H a = some (.tup xs)) : TyOf K H (.ref a) (.type "tuple")
  | dK {a : Addr} {kvs : List (Key × V)} (e : H a = some (.dK kvs)) : TyOf K H (.ref a) (.type "dict")
  | dT {a : Addr} {kvs : List (List Key × V)} (e : H a = some (.dT kvs)) : TyOf K H (.ref a) (.type "dict")
  | ins {a C dx : Addr} {fs : List (Str × V)} (e : H a = some (.ins C dx fs)) (cl : Cls K C) (ha : PySem.W.findIn K (.ref C) "__class__" = some (some (.builtin "object.__class__")))
      (hn : PySem.W.specialIn K (.builtin "object.__class__") "__get__" = some (some (.builtin "getset_descriptor.__get__"))) (htk : PySem.W.takesIn K (.builtin "object.__class__") = some true)
      (hm : PySem.W.mroIn K C (.type "object") = some true) : TyOf K H (.ref a) (.ref C)
theorem isinst_ok {x : V} {u t : Value} (I : Inv X pins σ H s) (rx : RelV x u) (ty : TyOf X.K H x t) (e : PySem.W.kitOne X.K t c = some b) (h : ∀ tk, Q (.bool b) { s with toks := tk }) :
    wpAny (model X.prog X.w) A (call (.builtin "isinstance") [u, c]) Q E s := by
  cases ty with
  | non => cases (show u = Value.none from rx); exact PySem.W.kia_one PySem.W.kitx_none I.kIn True.intro e (fun z => nomatch z) h
  | bl y => cases (show u = Value.bool y from rx); exact PySem.W.kia_one PySem.W.kitx_bool I.kIn True.intro e (fun z => nomatch z) h
  | int i => obtain ⟨t, q⟩ := (show ∃ t, u = Value.int i t from rx); cases q; exact PySem.W.kia_one PySem.W.kitx_int I.kIn True.intro e (fun z => nomatch z) h
  | str y => obtain ⟨t, q⟩ := (show ∃ t, u = Value.str y t from rx); cases q; exact PySem.W.kia_one PySem.W.kitx_str I.kIn True.intro e (fun z => nomatch z) h
  | flt y => obtain ⟨t, q⟩ := (show ∃ t, u = Value.float y t from rx); cases q; exact PySem.W.kia_one PySem.W.kitx_float I.kIn True.intro e (fun z => nomatch z) h
  | @lst a xs ea =>
    cases (show u = Value.ref a from rx)
    obtain ⟨_, _, n, _, h1⟩ := (show ObjOk X.prog X.w H s.heap a (.lst xs) from I.hok a _ ea)
    exact PySem.W.kia_one PySem.W.kitx_list I.kIn ⟨_, h1, rfl⟩ e (fun z => nomatch z) h
  | @frz a ob xs ea =>
    cases (show u = Value.ref a from rx)
    obtain ⟨_, _, _, n, _, h1⟩ := (show ObjOk X.prog X.w H s.heap a (.frz ob (.lst xs)) from I.hok a _ ea)
    exact PySem.W.kia_one PySem.W.kitx_list I.kIn ⟨_, h1, rfl⟩ e (fun z => nomatch z) h
  | @tup a xs ea =>
    cases (show u = Value.ref a from rx)
    obtain ⟨_, _, _, p⟩ := (show ObjOk X.prog X.w H s.heap a (.tup xs) from I.hok a _ ea)
    obtain ⟨o, h1, h2, _⟩ := p
    exact PySem.W.kia_one PySem.W.kitx_tuple I.kIn ⟨o, h1, h2⟩ e (fun z => nomatch z) h
  | @dK a kvs ea =>
    cases (show u = Value.ref a from rx)
    obtain ⟨_, _, vs, _, p⟩ := (show ObjOk X.prog X.w H s.heap a (.dK kvs) from I.hok a _ ea)
    obtain ⟨o, es, ep, h1, h2, _⟩ := p
    exact PySem.W.kia_one PySem.W.kitx_dict I.kIn ⟨o, h1, h2.1⟩ e (fun z => nomatch z) h
  | @dT a kvs ea =>
    cases (show u = Value.ref a from rx)
    obtain ⟨_, _, xs, _, o, es, ep, h1, h2, _⟩ := (show ObjOk X.prog X.w H s.heap a (.dT kvs) from I.hok a _ ea)
    exact PySem.W.kia_one PySem.W.kitx_dict I.kIn ⟨o, h1, h2.1⟩ e (fun z => nomatch z) h
  | @ins a C dx fs ea cl ha hn htk hm =>
    cases (show u = Value.ref a from rx)
    obtain ⟨mA, O, _⟩ := ins_get I.hok ea
    obtain ⟨od, J, _⟩ := O.look
    exact PySem.W.kia_one (PySem.W.kitx_own (cl.get _) cl.hd ha hn htk hm) I.kIn J e (fun z => nomatch z) h
end
end L2
namespace L2
open PySem PySem.Spec PyProof.Rows
structure Room (k : Nat) (A : Around) : Prop where
  hd : A.handled = none
  dp : A.depth + 3 * k + 5 < recursionLimit
  un : A.units + 16 * k + 200 < cLine
theorem Room.mono {j k : Nat} {A : Around} (r : Room k A) (h : j ≤ k) : Room j A := ⟨r.hd, by have := r.dp; omega, by have := r.un; omega⟩
theorem Room.deeper {k : Nat} {A : Around} (r : Room (k + 1) A) (env : Env) : Room k (A.deeper env) :=
  ⟨r.hd, by have := r.dp; show A.depth + 1 + 3 * k + 5 < _; omega, by have := r.un; show A.units + 3 + 16 * k + 200 < _; omega⟩
theorem Room.depth {k : Nat} {A : Around} (r : Room k A) : A.depth < recursionLimit := by have := r.dp; omega
theorem Room.units {k : Nat} {A : Around} (r : Room k A) : A.units + 64 < cLine := by have := r.un; omega
def tNil : TA := fun _ H Q => Q [] H
def tCons (ta : TE) (tr : TA) : TA := fun σ H Q => ta σ H fun x H1 => tr σ H1 fun xs H2 => Q (x :: xs) H2
section
variable {X : Cx} {e : Expr} {es : List Expr} {te : TE} {t : TA} {pos : Pos}
theorem pa_nil : PA X [] tNil := fun _ _ _ _ H Q I h => Calls.spliced_nil ⟨[], H, I, .nil, h⟩
theorem pa_cons (ha : PE X e te) (hr : PA X es t) (hs : starEach (e :: es) X.env = (false, eval e X.env) :: starEach es X.env := by rfl) : PA X (e :: es) (tCons te t) := by
  intro pos pins s σ H Q I h
  rw [hs]
  show wpAny _ _ (spliced ((false, eval e X.env) :: backTo pos (starEach es X.env))) _ _ s
  refine Calls.spliced_cons (thn (ha pins s σ H _ I h) fun u s1 ⟨x, H1, I1, r1, q1⟩ => ?_)
  exact thn (hr pos pins s1 σ H1 _ I1 q1) fun us s2 ⟨xs, H2, I2, r2, q2⟩ => ⟨x :: xs, H2, I2, .cons r1 r2, q2⟩
def tTup (t : TA) : TE := fun σ H Q => t σ H fun xs H1 => xs.length ≤ sizeLine ∧ ∀ p, H1 p = none → Q (.ref p) (upd H1 p (.tup xs))
def tLst (t : TA) : TE := fun σ H Q => t σ H fun xs H1 => xs.length ≤ sizeLine ∧ ∀ p, H1 p = none → Q (.ref p) (upd H1 p (.lst xs))
theorem pe_tup {x1} (h : PA X es t) : PE X (.Tuple es x1 pos) (tTup t) := by
  intro pins s σ H Q I hq
  refine wpAny_Tuple_spliced (thn (h pos pins s σ H _ I hq) fun us s1 ⟨xs, H1, I1, r, z, q⟩ => ⟨by rw [← r.length]; exact z, ?_⟩)
  have hf : H1 s1.heap.objs.size = none := I1.hok.fresh (Nat.le_refl _)
  refine ⟨.ref s1.heap.objs.size, upd H1 s1.heap.objs.size (.tup xs), I1.laid (t' := s1.toks) (fun b u e => Heap.get?_push_of_some _ e) (Nat.le_refl _) ?_, rfl, q _ hf⟩
  exact ⟨⟨z, new_bare⟩, us, r, ⟨_, Heap.get?_push_size _ rfl, rfl, _, rfl⟩⟩
theorem pe_lst (h : PA X es t) : PE X (.List es pos) (tLst t) := by
  intro pins s σ H Q I hq
  refine wpAny_List_spliced (thn (h pos pins s σ H _ I hq) fun us s1 ⟨xs, H1, I1, r, z, q⟩ => ⟨by rw [← r.length]; exact z, ?_⟩)
  have hf : H1 s1.heap.objs.size = none := I1.hok.fresh (Nat.le_refl _)
  refine ⟨.ref s1.heap.objs.size, upd H1 s1.heap.objs.size (.lst xs), I1.laid (t' := s1.toks) (fun b u e => Heap.get?_push_of_some _ e) (Nat.le_refl _) ?_, rfl, q _ hf⟩
  exact ⟨z, us, 0, r, Heap.get?_push_size _ rfl⟩
end
abbrev Sp := List V → Hp → VK → XK → Prop
abbrev CXT := List Env → Hp → Shared → XK → Value → Shared → Prop
structure Env0 (P : Program) (w : World) (K : PySem.W.Frag) (mg : Str → Option Value) (base : Heap) (A : Around) (outer : List Env) (s : Shared) (H : Hp) : Prop where
  frames : A.frames = some outer
  mod : Mod K mg base
  bs : ∀ b o, base.get? b = some o → s.heap.get? b = some o ∧ H b = none
  bsz : base.objs.size ≤ s.heap.objs.size
  funs : s.heap.FunFrames base outer
  frf : ∀ b ∈ frs outer, H b = none
  hok : HOk P w H s.heap
  bare : AllBare s.gens
def CE (outer : List Env) (P : Program) (w : World) (H : Hp) (s : Shared) (Q : VK) (u : Value) (s' : Shared) : Prop :=
  ∃ v H', s'.os = s.os ∧ AllBare s'.gens ∧ Un (frs outer) [] H H' s.heap s'.heap ∧ HOk P w H' s'.heap ∧ RelV v u ∧ Q v H'
def CR (CX : CXT) (outer : List Env) (P : Program) (w : World) (H : Hp) (s : Shared) (Q : VK) (E : XK) (r : Result) (s' : Shared) : Prop :=
  match r with
  | .ok (.ret u) => CE outer P w H s Q u s'
  | .ok _ => False
  | .error e => CX outer H s E e s'
structure FnOk (P : Program) (w : World) (K : PySem.W.Frag) (mg : Str → Option Value) (base : Heap) (CX : CXT) (k : Nat) (f : Addr) (fd : FuncData) (ps : List Str) (sp : Sp) : Prop where
  len : ∀ vs H Q E, sp vs H Q E → vs.length = ps.length
  run : ∀ (A : Around) (outer : List Env) (s : Shared) (H : Hp) (args : Args) (us : List Value) (vs : List V) (Q : VK) (E : XK), Room k A → Env0 P w K mg base A outer s H → BindsTo s fd args (ps.zip us) → Vals vs us → sp vs H Q E →
    codeAny (model P w) A (.call (.ref f) args) (CR CX outer P w H s Q E) s
section
variable {X : Cx} {pins : List (Addr × Obj)} {σ : St} {H : Hp} {s s' : Shared}
theorem Inv.env0 (I : Inv X pins σ H s) : Env0 X.prog X.w X.K X.mg X.base X.A X.stack s H :=
  ⟨I.ok.frames, I.ok.mod, I.bs, Nat.le_trans I.ok.bsz I.sz, I.stack, I.stkFree, I.hok, I.bare⟩
theorem Inv.after {Q : VK} {u : Value} (I : Inv X pins σ H s) (h : CE X.stack X.prog X.w H s Q u s') : EP X pins σ Q u s' := by
  obtain ⟨v, H', os, bare, un, hok, r, q⟩ := h
  obtain ⟨hh, g, d, t, os'⟩ := s'
  obtain rfl : os' = s.os := os
  exact ⟨v, H', I.call (h' := hh) (g' := g) (d' := d) (t' := t) (ch := []) un hok bare (fun b z => absurd z (by simp)), r, q⟩
end
def tCall (sp : Sp) (dvs : List V) (E : XK) (t : TA) : TE := fun σ H Q => t σ H fun vs H1 => sp (vs ++ dvs) H1 Q E
def Binds (K : PySem.W.Frag) (fd : FuncData) (ps : List Str) (ds : List Value) : Prop :=
  ∀ (s : Shared) (us : List Value), K.In s.heap → (us ++ ds).length = ps.length → BindsTo s fd ⟨us, []⟩ (ps.zip (us ++ ds))
theorem Binds.all {K : PySem.W.Frag} {fd : FuncData} {ps : List Str} (h : ∀ us : List Value, us.length = ps.length → bindArgs fd ⟨us, []⟩ = pure (ps.zip us)) : Binds K fd ps [] := fun s us _ hl => by
  rw [List.append_nil] at hl ⊢
  exact .of_eq (h us hl)
def Passes (CX : CXT) (X : Cx) (E : XK) : Prop := ∀ (pins : List (Addr × Obj)) (σ : St) (H : Hp) (s : Shared) (e : Value) (s' : Shared), Inv X pins σ H s → CX X.stack H s E e s' → X.xe e s'
section
variable {X : Cx} {CX : CXT} {k : Nat} {f C : Addr} {fd : FuncData} {ps : List Str} {sp : Sp} {dvs : List V} {ds : List Value} {E : XK} {x m : Str} {p pos apos : Pos} {e o : Expr} {es : List Expr} {ta : TE} {t : TA}
theorem run_fn {pins : List (Addr × Obj)} {σ : St} {H : Hp} {s : Shared} {Q : VK} {us : List Value} {vs : List V} (F : FnOk X.prog X.w X.K X.mg X.base CX k f fd ps sp) (hr : Room k X.A) (hb : Binds X.K fd ps ds) (hd : Vals dvs ds) (hx : Passes CX X E)
    (I : Inv X pins σ H s) (r : Vals vs us) (h : sp (vs ++ dvs) H Q E) : wpAny (model X.prog X.w) X.A (call (.ref f) us) (EP X pins σ Q) X.xe s := by
  have r2 : Vals (vs ++ dvs) (us ++ ds) := r.append hd
  have hl : (us ++ ds).length = ps.length := by rw [← r2.length]; exact F.len _ _ _ _ h
  refine wpAny_call (codeAny_mono (F.run X.A X.stack s H ⟨us, []⟩ (us ++ ds) (vs ++ dvs) Q E hr I.env0 (hb s us I.kIn hl) r2 h) fun r s' hq => ?_)
  cases r with
  | error e => exact hx pins σ H s e s' I hq
  | ok fl =>
    cases fl with
    | ret u => exact I.after hq
    | next => exact False.elim hq
    | brk => exact False.elim hq
    | cont => exact False.elim hq
theorem pe_call (F : FnOk X.prog X.w X.K X.mg X.base CX k f fd ps sp) (hr : Room k X.A) (hg : Gl X x) (hm : X.mg x = some (.ref f)) (hk : PySem.W.keepIn X.K (.ref f) = true) (hb : Binds X.K fd ps ds) (hd : Vals dvs ds) (hx : Passes CX X E)
    (ha : PA X (e :: es) t) (hdb : (x == ("__debug__" : Str)) = false := by decide) (he : starEach (e :: es) X.env = (false, eval e X.env) :: starEach es X.env := by rfl) (hpl : (backTo pos (starEach es X.env)).any (·.1) = false := by rfl) :
    PE X (.Call (.Name x p) (e :: es) [] pos) (tCall sp dvs E t) := by
  intro pins s σ H Q I h
  refine wpAny_Call_Name_kw (ld_glob I hg hm ?_ hdb)
  refine PySem.W.callWith_K (h₀ := X.base) I.ok.mod.kin hk (thn (ha pos pins s σ H _ I h) fun us s1 ⟨vs, H1, I1, r, q⟩ => ⟨I1.kIn, ?_⟩) he hpl
  exact run_fn F hr hb hd hx I1 r q
end
section
variable {X : Cx} {CX : CXT} {k : Nat} {f C : Addr} {fd : FuncData} {ps ks : List Str} {sp : Sp} {E : XK} {x m : Str} {p pos apos kpos : Pos} {e o : Expr} {es : List Expr} {kws : List Keyword} {te ta : TE} {t tk : TA} {nm : Option Str}
variable {g : List Value → List Value → List Value} {gV : List V → List V → List V}
end
structure FnScope (N P : List Str) (sc : Scope) : Prop where
  kind : sc.kind = .function
  co : sc.isCoroutine = false
  gen : sc.isGenerator = false
  nd : N.Nodup
  pre : N.take P.length = P
  par : ∀ x ∈ P, sc.names.lookup x = some .local ∨ sc.names.lookup x = some .cell
  nofree : ∀ y ∈ sc.names, y.2 ≠ .free
theorem bindL_out {kindOf : Str → Option NameKind} {x : Str} : ∀ {binds : List (Str × Value)} {m : Str → Option Value}, (∀ v, (x, v) ∉ binds) → bindL kindOf binds m x = m x
  | [], _, _ => rfl
  | (n, v) :: r, m, h => by
    unfold bindL
    rw [bindL_out fun w hw => h w (List.mem_cons_of_mem _ hw)]
    split
    · have : x ≠ n := by rintro rfl; exact h v List.mem_cons_self
      simp [this]
    · rfl
theorem bindC_out {kindOf : Str → Option NameKind} {x : Str} : ∀ {binds : List (Str × Value)} {m : Str → Option Value}, (∀ v, (x, v) ∉ binds) → bindC kindOf binds m x = m x
  | [], _, _ => rfl
  | (n, v) :: r, m, h => by
    unfold bindC
    rw [bindC_out fun w hw => h w (List.mem_cons_of_mem _ hw)]
    split
    · rfl
    · have : x ≠ n := by rintro rfl; exact h v List.mem_cons_self
      simp [this]
theorem bindL_get {kindOf : Str → Option NameKind} {x : Str} {v : Value} : ∀ {P : List Str} {vs : List Value} {i : Nat} {m : Str → Option Value}, P.Nodup → P[i]? = some x → vs[i]? = some v → kindOf x = some .local →
    bindL kindOf (P.zip vs) m x = some v
  | [], _, _, _, _, h, _, _ => by simp at h
  | _ :: _, [], _, _, _, _, h, _ => by simp at h
  | p :: P, w :: vs, 0, m, nd, h1, h2, hk => by
    simp at h1 h2; subst h1; subst h2
    show bindL kindOf ((p, w) :: P.zip vs) m p = _
    unfold bindL
    rw [bindL_out fun v hv => (List.nodup_cons.mp nd).1 (List.of_mem_zip hv).1, if_pos hk]
    simp
  | p :: P, w :: vs, i + 1, m, nd, h1, h2, hk => by
    show bindL kindOf ((p, w) :: P.zip vs) m x = _
    unfold bindL
    exact bindL_get (i := i) (List.nodup_cons.mp nd).2 (by simpa using h1) (by simpa using h2) hk
theorem bindC_get {kindOf : Str → Option NameKind} {x : Str} {v : Value} : ∀ {P : List Str} {vs : List Value} {i : Nat} {m : Str → Option Value}, P.Nodup → P[i]? = some x → vs[i]? = some v → kindOf x ≠ some .local →
    bindC kindOf (P.zip vs) m x = some v
  | [], _, _, _, _, h, _, _ => by simp at h
  | _ :: _, [], _, _, _, _, h, _ => by simp at h
  | p :: P, w :: vs, 0, m, nd, h1, h2, hk => by
    simp at h1 h2; subst h1; subst h2
    show bindC kindOf ((p, w) :: P.zip vs) m p = _
    unfold bindC
    rw [bindC_out fun v hv => (List.nodup_cons.mp nd).1 (List.of_mem_zip hv).1, if_neg hk]
    simp
  | p :: P, w :: vs, i + 1, m, nd, h1, h2, hk => by
    show bindC kindOf ((p, w) :: P.zip vs) m x = _
    unfold bindC
    exact bindC_get (i := i) (List.nodup_cons.mp nd).2 (by simpa using h1) (by simpa using h2) hk
def start (N : List Str) (vs : List V) : St := vs.map some ++ List.replicate (N.length - vs.length) none
def cxOf (CX : CXT) (P : Program) (w : World) (K : PySem.W.Frag) (mg : Str → Option Value) (base : Heap) (N : List Str) (qual : Str) (scope : Scope) (f : Addr) (cd : Value) (A : Around) (outer : List Env) (s : Shared) (H : Hp) (E : XK) : Cx where
  prog := P
  w := w
  K := K
  mg := mg
  base := base
  A := A.deeper (envOfC qual scope s.heap.objs.size f cd)
  N := N
  s₀ := s
  H₀ := H
  env := envOfC qual scope s.heap.objs.size f cd
  outer := outer
  stack := envOfC qual scope s.heap.objs.size f cd :: outer
  ex := []
  calm := true
  fn := fun _ => true
  pn := []
  xe := fun e s' => wpAny (model P w) (A.deeper (envOfC qual scope s.heap.objs.size f cd)) (leaving (envOfC qual scope s.heap.objs.size f cd) e) (fun _ s'' => CX outer H s E e s'') (fun e' s'' => CX outer H s E e' s'') s'
theorem cell_has {sc : Scope} {n : Nat} {x : Str} (h : sc.names.lookup x = some .cell) : ∃ c, (cellsFrom n sc.names []).lookup x = some c := by
  have q := PySem.W.cellsFrom_some sc.names n [] (.inl h)
  exact Option.isSome_iff_exists.mp q
theorem inv_start {CX : CXT} {P : Program} {w : World} {K : PySem.W.Frag} {mg : Str → Option Value} {base : Heap} {N ps : List Str} {qual : Str} {scope : Scope} {f : Addr} {cd : Value} {A : Around} {outer : List Env} {s s1 : Shared} {H : Hp} {E : XK} {us : List Value} {vs : List V}
    (S : FnScope N ps scope) (hd : A.handled = none) (e0 : Env0 P w K mg base A outer s H) (hl : vs.length = ps.length) (r : Vals vs us)
    (x : InCallC s s.heap.objs.size (bindL (envOfC qual scope s.heap.objs.size f cd).kindOf (ps.zip us) fun _ => none) (cellsFrom (s.heap.objs.size + 1) scope.names []) (bindC (envOfC qual scope s.heap.objs.size f cd).kindOf (ps.zip us) fun _ => none) s1) :
    Inv (cxOf CX P w K mg base N qual scope f cd A outer s H E) [] (start N vs) H s1 := by
  have hpl : ps.length ≤ N.length := by have := congrArg List.length S.pre; rw [List.length_take] at this; omega
  obtain ⟨h1, tk, rfl, hk⟩ := x.done
  have noA : ∀ b : Addr, b ∉ (cxOf CX P w K mg base N qual scope f cd A outer s H E).ex := fun b z => absurd (show b ∈ ([] : List Addr) from z) (by simp)
  refine ⟨⟨e0.mod, S.kind, rfl, rfl, Nat.le_refl _, fun y z c h1 h2 => ?_, fun y hy => ?_, fun y c _ h => ?_, fun _ => hd, Around.frames_deeper e0.frames, .inr ⟨rfl, rfl⟩, fun b z => absurd z (noA b), e0.bs, e0.bsz, fun b _ _ => noA b, fun b z => absurd z (noA b), e0.funs, e0.frf⟩,
    rfl, e0.bare, Un.kept hk, ⟨_, x.toInCall.ns, fun i y v h1 h2 h3 => ?_⟩, fun y c h => ⟨_, x.cell y c h⟩, e0.hok.fresh (Nat.le_refl _), fun y c h => ?_, fun p hp => absurd (show p ∈ ([] : List (Addr × Obj)) from hp) (by simp), e0.hok.kept hk, ?_⟩
  · exact name_of_addr x.apart (PySem.mem_of_lookup h1) (PySem.mem_of_lookup h2)
  · have hy : scope.names.lookup y = some .cell ∨ scope.names.lookup y = some .free := hy
    rcases hy with hy | hy
    · exact cell_has hy
    · exact absurd rfl (S.nofree _ (PySem.mem_of_lookup hy))
  · exact Nat.le_of_lt (x.above y c (PySem.mem_of_lookup h))
  · have hi : i < vs.length := by
      unfold start at h2
      by_cases hi : i < vs.length
      · exact hi
      · rw [List.getElem?_append_right (by simpa using hi)] at h2
        rw [List.getElem?_replicate] at h2
        split at h2 <;> cases h2
    have ha : vs[i]? = some v := by
      unfold start at h2
      rw [List.getElem?_append_left (by simpa using hi), List.getElem?_map] at h2
      cases e : vs[i]? with
      | none => rw [e] at h2; cases h2
      | some a => rw [e] at h2; cases h2; rfl
    obtain ⟨u, hu, rv⟩ := r.get ha
    have hp : ps[i]? = some y := by
      rw [← S.pre, List.getElem?_take_of_lt (by omega)]; exact h1
    have ndP : ps.Nodup := by rw [← S.pre]; exact S.nd.sublist (List.take_sublist _ _)
    refine ⟨u, rv, ?_⟩
    rcases S.par y (List.mem_of_getElem? hp) with k | k
    · exact .inl ⟨k, bindL_get ndP hp hu k⟩
    · obtain ⟨c, e⟩ := cell_has (n := s.heap.objs.size + 1) k
      refine .inr ⟨.inl k, c, e, ?_⟩
      have q := x.cell y c e
      rw [bindC_get ndP hp hu (by show scope.names.lookup y ≠ _; rw [k]; decide)] at q
      exact q
  · exact e0.hok.fresh (Nat.le_of_lt (x.above y c (PySem.mem_of_lookup h)))
  · unfold start
    show _ = N.length
    rw [List.length_append, List.length_map, List.length_replicate]
    omega
theorem fn_of {CX : CXT} {P : Program} {w : World} {K : PySem.W.Frag} {mg : Str → Option Value} {base : Heap} {k : Nat} {f : Addr} {name qual : Str} {params : Arguments} {body : List Stmt} {scope : Scope} {dV kV doc pm cdv ct oc : Value} {an od : Option Addr}
    {osl : Array (Option Value)} {N ps : List Str} {sp : Sp} (lk : K.lookup f = some ⟨oc, od, .func (PySem.W.fnOf name qual params body scope dV kV doc pm an cdv ct), osl⟩) (hcd : PySem.W.codeIn K cdv qual = true) (S : FnScope N ps scope)
    (len : ∀ vs H Q E, sp vs H Q E → vs.length = ps.length)
    (hbody : ∀ (A : Around) (outer : List Env) (s : Shared) (H : Hp) (vs : List V) (Q : VK) (E : XK), Room k (A.deeper (envOfC qual scope s.heap.objs.size f cdv)) → sp vs H Q E →
      ∃ t, PSs (cxOf CX P w K mg base N qual scope f cdv A outer s H E) body t ∧ t { nx := fun _ H' => Q .non H', rt := Q } (start N vs) H) :
    FnOk P w K mg base CX (k + 1) f (PySem.W.fnOf name qual params body scope dV kV doc pm an cdv ct) ps sp := by
  refine ⟨len, fun A outer s H args us vs Q E hr e0 hb r hsp => ?_⟩
  have hl := len _ _ _ _ hsp
  have KX : K.In s.heap := e0.mod.kin.keeps fun b o e => (e0.bs b o e).1
  have lim : s.heap.NoLimit := e0.mod.nolimit.keeps fun b o e => (e0.bs b o e).1
  have hkind : ∀ y ∈ ps.zip us, scope.names.lookup y.1 = some .local ∨ (scope.names.lookup y.1 = some .cell ∧ ((cellsFrom (s.heap.objs.size + 1) scope.names []).lookup y.1).isSome = true) := fun ⟨n, v⟩ hy => by
    rcases S.par n (List.of_mem_zip hy).1 with q | q
    · exact .inl q
    · exact .inr ⟨q, PySem.W.cellsFrom_some _ _ _ (.inl q)⟩
  refine codeAny_call_function hr.depth (KX _ _ lk) rfl S.co S.gen rfl (PySem.W.codeRec_of KX hcd) (hb _ _ _ _ ?_)
  refine wpAny_newFunctionEnv_cells S.kind hkind fun env he s1 x => ?_
  subst he
  refine ⟨lim.keeps x.toInCall.keep, codeAny_func ?_⟩
  obtain ⟨t, ht, hq⟩ := hbody A outer s H vs Q E (hr.deeper _) hsp
  have I : Inv (cxOf CX P w K mg base N qual scope f cdv A outer s H E) [] (start N vs) H s1 := inv_start S hr.hd e0 hl r x
  refine wpAny_mono (ht [] s1 (start N vs) H _ I hq) (fun fl s' hs => ?_) fun e s' hs => hs
  have fin : ∀ {σ' : St} {H' : Hp} {v : V} {u : Value}, Inv (cxOf CX P w K mg base N qual scope f cdv A outer s H E) [] σ' H' s' → RelV v u → Q v H' → CE outer P w H s Q u s' :=
    fun {σ' H' v u} J rv q => ⟨v, H', J.os, J.bare, J.base, J.hok, rv, q⟩
  cases fl with
  | ret u =>
    obtain ⟨v, σ', H', J, rv, q⟩ := hs
    exact fin J rv q
  | next =>
    obtain ⟨σ', H', J, q⟩ := hs
    exact fin (v := V.non) (u := Value.none) J rfl q
  | brk =>
    obtain ⟨_, _, _, q⟩ := hs
    exact False.elim q
  | cont =>
    obtain ⟨_, _, _, q⟩ := hs
    exact False.elim q
end L2
namespace L2
open PySem PySem.Spec PyProof.Rows
section
variable {X : Cx} {x : Str} {p pos : Pos} {e : Expr} {es : List Expr} {t : TA} {id T : String} {r : List V → Hp → VK → Prop}
def tCB (r : List V → Hp → VK → Prop) (t : TA) : TE := fun σ H Q => t σ H fun vs H1 => r vs H1 Q
theorem pe_callB (hc : CallR X (.builtin id) r) (hg : Gl X x) (hm : X.mg x = none) (hv : bootBuiltins x = some (.builtin id)) (ha : PA X (e :: es) t) (hn : x ≠ "__name__" := by decide) (hdb : (x == ("__debug__" : Str)) = false := by decide)
    (he : starEach (e :: es) X.env = (false, eval e X.env) :: starEach es X.env := by rfl) (hpl : (backTo pos (starEach es X.env)).any (·.1) = false := by rfl) : PE X (.Call (.Name x p) (e :: es) [] pos) (tCB r t) := by
  intro pins s σ H Q I h
  refine wpAny_Call_Name_kw (ld_blt I hg hm hv ?_ hn hdb)
  exact PyProof.Rows.callWith_builtin1 (thn (ha pos pins s σ H _ I h) fun us s1 ⟨vs, H1, I1, r1, q1⟩ => hc pins s1 σ H1 vs us Q I1 r1 q1) he hpl
theorem pe_callTy (hc : CallR X (.type T) r) (hg : Gl X x) (hm : X.mg x = none) (hv : bootBuiltins x = some (.type T)) (ha : PA X (e :: es) t) (hn : x ≠ "__name__" := by decide) (hdb : (x == ("__debug__" : Str)) = false := by decide)
    (he : starEach (e :: es) X.env = (false, eval e X.env) :: starEach es X.env := by rfl) (hpl : (backTo pos (starEach es X.env)).any (·.1) = false := by rfl) : PE X (.Call (.Name x p) (e :: es) [] pos) (tCB r t) := by
  intro pins s σ H Q I h
  refine wpAny_Call_Name_kw (ld_blt I hg hm hv ?_ hn hdb)
  exact PyProof.Rows.callWith_type1 (thn (ha pos pins s σ H _ I h) fun us s1 ⟨vs, H1, I1, r1, q1⟩ => hc pins s1 σ H1 vs us Q I1 r1 q1) he hpl
end
end L2
namespace L2
open PySem PySem.Spec PyProof.Rows
section
variable {κ : Type} [DecidableEq κ]
def valV (kvs : List (κ × V)) (k : κ) : Option V := (kvs.find? fun kv => decide (kv.1 = k)).map (·.2)
def putK (kvs : List (κ × V)) (k : κ) (v : V) : List (κ × V) :=
  if (kvs.any fun kv => decide (kv.1 = k)) = true then kvs.map (fun kv => if kv.1 = k then (kv.1, v) else kv) else kvs ++ [(k, v)]
theorem valV_pos {p : κ × V} {r : List (κ × V)} {k : κ} (e : p.1 = k) : valV (p :: r) k = some p.2 := by simp [valV, List.find?_cons, e]
theorem valV_neg {p : κ × V} {r : List (κ × V)} {k : κ} (e : ¬ p.1 = k) : valV (p :: r) k = valV r k := by simp [valV, List.find?_cons, e]
theorem valV_any (k : κ) : ∀ kvs : List (κ × V), (kvs.any fun kv => decide (kv.1 = k)) = (valV kvs k).isSome
  | [] => rfl
  | p :: r => by
    rw [List.any_cons]
    by_cases e : p.1 = k
    · simp only [valV_pos e, decide_eq_true e, Bool.true_or, Option.isSome_some]
    · rw [valV_neg e, decide_eq_false e, Bool.false_or]; exact valV_any k r
theorem valV_map (k j : κ) (y : V) : ∀ kvs : List (κ × V), valV (kvs.map fun kv => if kv.1 = k then (kv.1, y) else kv) j = (valV kvs j).map fun x => if j = k then y else x
  | [] => rfl
  | p :: r => by
    have ih := valV_map k j y r
    rw [List.map_cons]
    by_cases h : p.1 = k
    · rw [if_pos h]
      by_cases e : p.1 = j
      · rw [valV_pos (p := (p.1, y)) e, valV_pos e, Option.map_some, if_pos (e.symm.trans h)]
      · rw [valV_neg (p := (p.1, y)) e, valV_neg e, ih]
    · rw [if_neg h]
      by_cases e : p.1 = j
      · rw [valV_pos (p := p) e, valV_pos e, Option.map_some, if_neg (fun z => h (e.trans z))]
      · rw [valV_neg (p := p) e, valV_neg e, ih]
theorem valV_snoc (k j : κ) (y : V) : ∀ kvs : List (κ × V), valV kvs k = none → valV (kvs ++ [(k, y)]) j = if j = k then some y else valV kvs j
  | [], _ => by
    by_cases e : k = j
    · rw [if_pos e.symm]; exact valV_pos (p := (k, y)) e
    · rw [if_neg (fun z => e z.symm)]; exact valV_neg (p := (k, y)) e
  | p :: r, hn => by
    rw [List.cons_append]
    have hk : ¬ p.1 = k := fun z => by rw [valV_pos z] at hn; cases hn
    rw [valV_neg hk] at hn
    have ih := valV_snoc k j y r hn
    by_cases e : p.1 = j
    · rw [valV_pos e, valV_pos e, if_neg (fun z => hk (e.trans z))]
    · rw [valV_neg e, valV_neg e, ih]
theorem valV_put (kvs : List (κ × V)) (k j : κ) (y : V) : valV (putK kvs k y) j = if j = k then some y else valV kvs j := by
  unfold putK
  by_cases a : (kvs.any fun kv => decide (kv.1 = k)) = true
  · rw [if_pos a, valV_map]
    rw [valV_any] at a
    by_cases e : j = k
    · obtain ⟨x, hx⟩ := Option.isSome_iff_exists.mp a
      rw [if_pos e, e, hx, Option.map_some, if_pos rfl]
    · rw [if_neg e]
      cases valV kvs j with
      | none => rfl
      | some x => rw [Option.map_some, if_neg e]
  · rw [if_neg a]
    refine valV_snoc k j y kvs ?_
    rw [valV_any] at a
    cases q : valV kvs k with
    | none => rfl
    | some x => rw [q] at a; exact (a rfl).elim
theorem length_putK (kvs : List (κ × V)) (k : κ) (v : V) : (putK kvs k v).length ≤ kvs.length + 1 := by
  unfold putK
  split
  · rw [List.length_map]; omega
  · rw [List.length_append, List.length_cons, List.length_nil]; omega
theorem RelO.isSome_eq {o : Option V} {u : Option Value} (r : RelO o u) : o.isSome = u.isSome := by
  cases o with
  | none => cases u with
    | none => rfl
    | some _ => exact (show False from r).elim
  | some _ => cases u with
    | none => exact (show False from r).elim
    | some _ => rfl
theorem KV.val {kvs : List (κ × V)} {vs : List (κ × Value)} (r : KV kvs vs) (k : κ) : RelO (valV kvs k) (valueAt vs k) := by
  unfold KV at r
  induction r with
  | nil => exact True.intro
  | @cons p q ps qs h t ih =>
    obtain ⟨h1, h2⟩ := h
    by_cases e : p.1 = k
    · have e' : q.1 = k := h1.symm.trans e
      have b : valueAt (q :: qs) k = some q.2 := by simp [valueAt, List.find?_cons, e']
      rw [valV_pos e, b]; exact h2
    · have e' : ¬ q.1 = k := fun z => e (h1.trans z)
      have b : valueAt (q :: qs) k = valueAt qs k := by simp [valueAt, List.find?_cons, e']
      rw [valV_neg e, b]; exact ih
theorem KV.any {kvs : List (κ × V)} {vs : List (κ × Value)} (r : KV kvs vs) (k : κ) : (kvs.any fun kv => decide (kv.1 = k)) = vs.any fun kv => decide (kv.1 = k) := by
  unfold KV at r
  induction r with
  | nil => rfl
  | cons h t ih => rw [List.any_cons, List.any_cons, ih, h.1]
theorem KV.repl {kvs : List (κ × V)} {vs : List (κ × Value)} (r : KV kvs vs) (k : κ) {y : V} {u : Value} (ry : RelV y u) :
    KV (kvs.map fun kv => if kv.1 = k then (kv.1, y) else kv) (vs.map fun kv => if kv.1 = k then (kv.1, u) else kv) := by
  unfold KV at r ⊢
  induction r with
  | nil => exact .nil
  | @cons p q ps qs h t ih =>
    rw [List.map_cons, List.map_cons]
    refine .cons ?_ ih
    obtain ⟨h1, h2⟩ := h
    by_cases e : p.1 = k
    · rw [if_pos e, if_pos (h1.symm.trans e)]; exact ⟨h1, ry⟩
    · rw [if_neg e, if_neg (fun z => e (h1.trans z))]; exact ⟨h1, h2⟩
theorem KV.put {kvs : List (κ × V)} {vs : List (κ × Value)} (r : KV kvs vs) (k : κ) {y : V} {u : Value} (ry : RelV y u) : KV (putK kvs k y) (stored vs k u) := by
  unfold putK stored
  rw [r.any k]
  by_cases e : (vs.any fun kv => decide (kv.1 = k)) = true
  · rw [if_pos e, if_pos e]; exact r.repl k ry
  · rw [if_neg e, if_neg e]; exact Paired.snoc r ⟨rfl, ry⟩
theorem KV.length {kvs : List (κ × V)} {vs : List (κ × Value)} (r : KV kvs vs) : kvs.length = vs.length := Paired.length r
end
theorem kV_is {P : Program} {w : World} {k : Key} {u : Value} (r : RelV (kV k) u) : (mixKind P w).is k u = true := by
  cases k with
  | inl i => obtain ⟨t, e⟩ := (show ∃ t, u = Value.int i t from r); subst e; exact mixKind_int P w i t
  | inr x => obtain ⟨t, e⟩ := (show ∃ t, u = Value.str x t from r); subst e; exact mixKind_str P w x t
theorem items_are {P : Program} {w : World} : ∀ {ks : List Key} {us : List Value}, Vals (ks.map kV) us → ItemsAre (mixKind P w) ks us
  | [], _, r => by rw [List.map_nil] at r; cases r; exact .nil
  | k :: ks, _, r => by
    rw [List.map_cons] at r
    cases r with
    | cons h t => exact .cons (kV_is h) (items_are t)
abbrev KT (H : Hp) : List (List Key × V) → List (List Key × Addr × Value) → Prop := Paired fun p q => p.1 = q.1 ∧ H q.2.1 = some (.tup (p.1.map kV)) ∧ RelV p.2 q.2.2
theorem KT.val {H : Hp} {kvs : List (List Key × V)} {xs : List (List Key × Addr × Value)} (r : KT H kvs xs) (k : List Key) : RelO (valV kvs k) ((atKey xs k).map (·.2)) := by
  induction r with
  | nil => exact True.intro
  | @cons p q ps qs h t ih =>
    obtain ⟨h1, _, h2⟩ := h
    by_cases e : p.1 = k
    · have e' : q.1 = k := h1.symm.trans e
      have b : atKey (q :: qs) k = some q.2 := by simp [atKey, List.find?_cons, e']
      rw [valV_pos e, b]; exact h2
    · have e' : ¬ q.1 = k := fun z => e (h1.trans z)
      have b : atKey (q :: qs) k = atKey qs k := by simp [atKey, List.find?_cons, e']
      rw [valV_neg e, b]; exact ih
theorem KT.repl {H : Hp} {kvs : List (List Key × V)} {xs : List (List Key × Addr × Value)} (r : KT H kvs xs) (k : List Key) {y : V} {u : Value} (ry : RelV y u) :
    KT H (kvs.map fun kv => if kv.1 = k then (kv.1, y) else kv) (xs.map (putAt k u)) := by
  induction r with
  | nil => exact .nil
  | @cons p q ps qs h t ih =>
    rw [List.map_cons, List.map_cons]
    refine .cons ?_ ih
    obtain ⟨h1, h2, h3⟩ := h
    unfold putAt
    by_cases e : p.1 = k
    · rw [if_pos e, if_pos (h1.symm.trans e)]; exact ⟨h1, h2, ry⟩
    · rw [if_neg e, if_neg (fun z => e (h1.trans z))]; exact ⟨h1, h2, h3⟩
theorem KT.put {H : Hp} {kvs : List (List Key × V)} {xs : List (List Key × Addr × Value)} (r : KT H kvs xs) (k : List Key) {b : Addr} {y : V} {u : Value} (hb : H b = some (.tup (k.map kV))) (ry : RelV y u) :
    KT H (putK kvs k y) (storedH xs k b u) := by
  have e : (kvs.any fun kv => decide (kv.1 = k)) = (atKey xs k).isSome := by
    rw [valV_any, (r.val k).isSome_eq, Option.isSome_map]
  unfold putK storedH
  rw [e]
  by_cases q : (atKey xs k).isSome = true
  · rw [if_pos q, if_pos q]; exact r.repl k ry
  · rw [if_neg q, if_neg q]; exact Paired.snoc r ⟨rfl, hb, ry⟩
theorem KT.keeps {H H' : Hp} {kvs : List (List Key × V)} {xs : List (List Key × Addr × Value)} (r : KT H kvs xs) (ht : ∀ b ys, H b = some (.tup ys) → H' b = some (.tup ys)) : KT H' kvs xs :=
  Paired.mapP r fun _ _ z => ⟨z.1, ht _ _ z.2.1, z.2.2⟩
section
variable {P : Program} {w : World} {H : Hp} {h : Heap} {a : Addr}
theorem rd_of {u : HO} (ok : HOk P w H h) (e : Rd H a u) : ObjOk P w H h a u := e.ok ok
theorem dk_rd {kvs : List (Key × V)} (ok : HOk P w H h) (e : Rd H a (.dK kvs)) : kvs.length ≤ sizeLine ∧ (a == sysModules) = false ∧ ∃ vs, KV kvs vs ∧ h.DictOf (mixKind P w) a vs :=
  show ObjOk P w H h a (.dK kvs) from rd_of ok e
theorem dk_of {kvs : List (Key × V)} (ok : HOk P w H h) (e : H a = some (.dK kvs)) : kvs.length ≤ sizeLine ∧ (a == sysModules) = false ∧ ∃ vs, KV kvs vs ∧ h.DictOf (mixKind P w) a vs := dk_rd ok (.inl e)
theorem key_of {ks : List Key} (ok : HOk P w H h) (e : H a = some (.tup (ks.map kV))) : (tupleKind (mixKind P w)).is h ks a := by
  obtain ⟨_, its, r, o, h1, h2, n, h3⟩ := (show ObjOk P w H h a (.tup (ks.map kV)) from ok a _ e)
  exact ⟨o, its.toArray, n, h1, h2, h3, by simpa using items_are r⟩
theorem dt_rd {kvs : List (List Key × V)} (ok : HOk P w H h) (e : Rd H a (.dT kvs)) : kvs.length ≤ sizeLine ∧ (a == sysModules) = false ∧
    ∃ xs, KT H kvs xs ∧ h.DictOfH (tupleKind (mixKind P w)) a xs := by
  obtain ⟨z, y, xs, r, o, es, ep, h1, h2, h3, h4, h5⟩ := (show ObjOk P w H h a (.dT kvs) from rd_of ok e)
  refine ⟨z, y, xs, r, o, es, ep, h1, h2, h3, h4, fun x hx => ?_, h5⟩
  have all : ∀ {l : List (List Key × V)} {m : List (List Key × Addr × Value)}, KT H l m → ∀ x ∈ m, (tupleKind (mixKind P w)).is h x.1 x.2.1 := by
    intro l m q
    induction q with
    | nil => intro x hx; exact nomatch hx
    | @cons p q ps qs hq t ih =>
      intro x hx
      rcases List.mem_cons.mp hx with e | hx
      · subst e
        exact key_of ok (by rw [← hq.1]; exact hq.2.1)
      · exact ih x hx
  exact all r x hx
theorem dt_of {kvs : List (List Key × V)} (ok : HOk P w H h) (e : H a = some (.dT kvs)) : kvs.length ≤ sizeLine ∧ (a == sysModules) = false ∧
    ∃ xs, KT H kvs xs ∧ h.DictOfH (tupleKind (mixKind P w)) a xs := dt_rd ok (.inl e)
end
def DGet (H : Hp) (a : Addr) (y : V) (r : Option V) : Prop :=
  (∃ kvs k, Rd H a (.dK kvs) ∧ y = kV k ∧ r = valV kvs k) ∨ ∃ kvs k b, Rd H a (.dT kvs) ∧ y = .ref b ∧ H b = some (.tup (k.map kV)) ∧ r = valV kvs k
def DPut (H : Hp) (a : Addr) (y v : V) (H' : Hp) : Prop :=
  (∃ kvs k, H a = some (.dK kvs) ∧ y = kV k ∧ kvs.length < sizeLine ∧ H' = upd H a (.dK (putK kvs k v))) ∨
  ∃ kvs k b, H a = some (.dT kvs) ∧ y = .ref b ∧ H b = some (.tup (k.map kV)) ∧ kvs.length < sizeLine ∧ H' = upd H a (.dT (putK kvs k v))
theorem DGet.k {H : Hp} {a : Addr} {kvs : List (Key × V)} {k : Key} (e : H a = some (.dK kvs)) : DGet H a (kV k) (valV kvs k) := .inl ⟨kvs, k, .inl e, rfl, rfl⟩
theorem DPut.k {H : Hp} {a : Addr} {kvs : List (Key × V)} {k : Key} {v : V} (e : H a = some (.dK kvs)) (hl : kvs.length < sizeLine) : DPut H a (kV k) v (upd H a (.dK (putK kvs k v))) := .inl ⟨kvs, k, e, rfl, hl, rfl⟩
section
variable {X : Cx} {pins : List (Addr × Obj)} {σ : St} {H : Hp} {s : Shared} {a : Addr} {y v : V} {u r : Value} {o : Option V} {A : Around} {E : Value → Shared → Prop}
theorem Inv.big (I : Inv X pins σ H s) : sysModules < s.heap.objs.size := by
  have h : mainGlobals < s.heap.objs.size := (I.mod.glob.keeps I.bk).lt
  exact Nat.lt_trans (by decide) h
theorem d_getItem {Q : Value → Shared → Prop} (hu : A.units + 1 < cLine) (I : Inv X pins σ H s) (g : DGet H a y (some v)) (ry : RelV y u) (h : ∀ w' s', Inv X pins σ H s' → RelV v w' → Q w' s') :
    wpAny (model X.prog X.w) A (getItem (.ref a) u) Q E s := by
  rcases g with ⟨kvs, k, e, ey, l⟩ | ⟨kvs, k, b, e, ey, eb, l⟩
  · subst ey
    obtain ⟨z, hd, vs, rel, dd⟩ := dk_rd I.hok e
    obtain ⟨w', hw, rw'⟩ := RelO.some_of (v := v) (o := valueAt vs k) (by rw [l]; exact rel.val k)
    exact wpAny_getItem_of (kV_is ry) dd.mapOf hw (h w' _ (I.tok _) rw')
  · subst ey
    cases (show u = Value.ref b from ry)
    obtain ⟨z, hd, xs, rel, dd⟩ := dt_rd I.hok e
    obtain ⟨w', hw, rw'⟩ := RelO.some_of (v := v) (o := (atKey xs k).map (·.2)) (by rw [l]; exact rel.val k)
    obtain ⟨p, hp, hp2⟩ := Option.map_eq_some_iff.mp hw
    refine wpAny_getItem_heap (tupleKind_room_in1 hu) (key_of I.hok eb) dd hp ?_
    rw [hp2]
    exact h w' _ (I.tok _) rw'
theorem d_write {h' : Heap} {t' : Nat} {ob : HO} (I : Inv X pins σ H s) (mu : Mut (H a)) (hs : Heap.SameBut a s.heap h') (he : ∃ q, h'.get? a = some q) (new : ObjOk X.prog X.w (upd H a ob) h' a ob) :
    Inv X pins σ (upd H a ob) { s with heap := h', toks := t' } :=
  I.write (x := a) (e := a) mu (.inl rfl) (fun b q hb z => (hs.2 b hb).trans z) he new
theorem dk_new {P : Program} {w : World} {H' : Hp} {h' : Heap} {kvs : List (Key × V)} {vs : List (Key × Value)} (z : kvs.length ≤ sizeLine) (hd : (a == sysModules) = false) (rel : KV kvs vs) (dd : h'.DictOf (mixKind P w) a vs) :
    ObjOk P w H' h' a (.dK kvs) := ⟨z, hd, vs, rel, dd⟩
theorem d_setItem {H' : Hp} {Q : Unit → Shared → Prop} (hu : A.units + 1 < cLine) (I : Inv X pins σ H s) (g : DPut H a y v H') (ry : RelV y u) (rv : RelV v r) (h : ∀ s', Inv X pins σ H' s' → Q () s') :
    wpAny (model X.prog X.w) A (setItem (.ref a) u r) Q E s := by
  rcases g with ⟨kvs, k, e, ey, l, eH⟩ | ⟨kvs, k, b, e, ey, eb, l, eH⟩
  · subst ey eH
    obtain ⟨z, hd, vs, rel, dd⟩ := dk_of I.hok e
    have hz : vs.length ≤ sizeLine := by rw [← rel.length]; exact z
    have hl : (putK kvs k v).length ≤ sizeLine := by have := length_putK kvs k v; omega
    refine wpAny_setItem_pairs (hsz := hz) (kV_is ry) dd fun h' dd' hs => h _ ?_
    have he : ∃ q, h'.get? a = some q := let ⟨q, _, _, hq, _⟩ := dd'; ⟨q, hq⟩
    exact d_write I (by rw [e]; exact True.intro) hs he (dk_new hl hd (rel.put k rv) dd')
  · subst ey eH
    cases (show u = Value.ref b from ry)
    obtain ⟨z, hd, xs, rel, dd⟩ := dt_of I.hok e
    have hz : xs.length ≤ sizeLine := by rw [← Paired.length rel]; exact z
    have hl : (putK kvs k v).length ≤ sizeLine := by have := length_putK kvs k v; omega
    refine wpAny_setItem_heap (hsz := hz) (tupleKind_room_in1 hu) (key_of I.hok eb) dd fun h' dd' hs => h _ ?_
    obtain ⟨q, es, ep, hq, h2, h3, h4, _, h5⟩ := dd'
    refine d_write I (by rw [e]; exact True.intro) hs ⟨q, hq⟩ ⟨hl, hd, _, (rel.put k eb rv).keeps fun c ys ec => ?_, q, es, ep, hq, h2, h3, h4, h5⟩
    rw [upd_ne (ne_of ec e (fun z => nomatch z))]
    exact ec
end
section
variable {X : Cx} {pins : List (Addr × Obj)} {σ : St} {H : Hp} {s : Shared} {a : Addr} {kvs : List (Key × V)} {k : Key} {u : Value} {A : Around} {E : Value → Shared → Prop}
end
def NoSl (i : Expr) : Prop := ∀ ov iv, subscripted i false ov iv = operate [ov, iv] (getItem ov iv)
theorem subD_of {prog : Program} {w : World} {A : Around} {E : Value → Shared → Prop} {s : Shared} {env : Env} {value slice : Expr} {pos : Pos} {T id : String} {Q : Value → Shared → Prop}
    (hl : typeLookup (.type T) "__getitem__" = pure (some (.builtin id))) (hs : NoSl slice)
    (h : wpAny (model prog w) A (eval value env) (fun o s₁ => wpAny (model prog w) A (eval slice env) (fun i s₂ => s₂.TypeIs o T ∧ wpAny (model prog w) A (getItem o i) Q E s₂) E s₁) E s) :
    wpAny (model prog w) A (eval (.Subscript value slice pos) env) Q E s := by
  refine Subscript_ (wpAny_mono h (fun o s₁ h₁ => wpAny_mono h₁ (fun i s₂ h₂ => ?_) fun _ _ x => x) fun _ _ x => x)
  obtain ⟨hT, h₂⟩ := h₂
  unfold subscriptTail
  refine wpAny_bind ?_
  rw [getitemInPython_of_ne hT.not_modules]
  refine wpAny_bind (wpAny_specialOf hT hl ?_)
  have fin : wpAny (model prog w) A (subscripted slice false o i) (fun r s₃ => wpAny (model prog w) A (letTemporaryGo value o r >>= fun _ => pure r) Q E s₃) E s₂ := by
    rw [hs o i]
    exact wpAny_operating (wpAny_mono h₂ (fun r s₃ h₃ => wpAny_bind (wpAny_letTemporaryGo (wpAny_pure h₃))) fun _ _ x => x)
  first
    | exact wpAny_pure (wpAny_bind fin)
    | exact wpAny_bind (wpAny_pure (wpAny_bind fin))
    | exact wpAny_bind fin
theorem dict_typeIs {X : Cx} {pins : List (Addr × Obj)} {σ : St} {H : Hp} {s : Shared} {a : Addr} {y : V} {o : Option V} (I : Inv X pins σ H s) (g : DGet H a y o) : s.TypeIs (.ref a) "dict" := by
  rcases g with ⟨kvs, k, e, _, _⟩ | ⟨kvs, k, b, e, _, _, _⟩
  · obtain ⟨_, _, vs, _, dd⟩ := dk_rd I.hok e
    exact dd.typeIs
  · obtain ⟨_, _, xs, _, dd⟩ := dt_rd I.hok e
    exact dd.typeIs
def tDGet (td ty : TE) : TE := fun σ H Q => td σ H fun x H1 => ty σ H1 fun y H2 => ∃ a v, x = .ref a ∧ DGet H2 a y (some v) ∧ Q v H2
def sDPut (td ty tv : TE) : TS := fun D σ H => tv σ H fun v H1 => td σ H1 fun x H2 => ty σ H2 fun y H3 => ∃ a H4, x = .ref a ∧ DPut H3 a y v H4 ∧ D.nx σ H4
section
variable {X : Cx} {o i e value : Expr} {pos pos' tpos : Pos} {td ty tv : TE}
theorem pe_dget (hu : X.A.units + 1 < cLine) (ho : PE X o td) (hi : PE X i ty) (hs : NoSl i) : PE X (.Subscript o i pos) (tDGet td ty) := by
  intro pins s σ H Q I h
  refine subD_of PySem.F.slot_dict_getitem.lookup hs (thn (ho pins s σ H _ I h) fun u s1 ⟨x, H1, I1, rx, q1⟩ => thn (hi pins s1 σ H1 _ I1 q1) fun iv s2 ⟨y, H2, I2, ry, a, v, ex, g, q2⟩ => ?_)
  subst ex
  obtain rfl : u = Value.ref a := rx
  exact ⟨dict_typeIs I2 g, d_getItem hu I2 g ry fun w' s3 I3 rw' => ⟨v, H2, I3, rw', q2⟩⟩
theorem ps_dput (hu : X.A.units + 1 < cLine) (ho : PE X o td) (hi : PE X i ty) (hv : PE X value tv) (hs : swapsWith value (some (.Subscript o i pos')) pos.line X.env = pure false) :
    PS X (.Assign [.Subscript o i pos'] value pos) (sDPut td ty tv) := by
  intro pins s σ H D I h
  refine wpAny_Assign_Subscript (thn (hv pins s σ H _ I h) fun r s1 ⟨v, H1, I1, rv, q1⟩ => thn (ho pins s1 σ H1 _ I1 q1) fun u s2 ⟨x, H2, I2, rx, q2⟩ => thn (hi pins s2 σ H2 _ I2 q2) fun iv s3 ⟨y, H3, I3, ry, a, H4, ex, g, q3⟩ => ?_) hs
  subst ex
  obtain rfl : u = Value.ref a := rx
  exact d_setItem hu I3 g ry rv fun s4 I4 => ⟨σ, H4, I4, q3⟩
end
theorem dk_empty {P : Program} {w : World} {H : Hp} (h : Heap) (hb : sysModules < h.objs.size) : ObjOk P w H (h.push { cls := .type "dict", data := .dict #[] }) h.objs.size (.dK []) :=
  ⟨Nat.zero_le _, beq_eq_false_iff_ne.mpr (Ne.symm (Nat.ne_of_lt hb)), [], .nil, Heap.DictOf.new h⟩
def tDNewK : TE := fun _ H Q => ∀ p, H p = none → Q (.ref p) (upd H p (.dK []))
section
variable {X : Cx} {pos : Pos}
theorem pe_dnewK : PE X (.Dict [] [] pos) tDNewK := fun pins s σ H Q I h =>
  wpAny_Dict_empty ⟨.ref s.heap.objs.size, _, I.laid (a := s.heap.objs.size) (o := .dK []) (t' := s.toks) (fun _ _ q => Heap.get?_push_of_some _ q) (Nat.le_refl _) (dk_empty s.heap I.big), rfl, h _ (I.hok.fresh (Nat.le_refl _))⟩
end
section
variable {X : Cx} {pins : List (Addr × Obj)} {σ : St} {H : Hp} {s : Shared} {a : Addr} {y d : V} {u r : Value} {o : Option V} {A : Around} {E : Value → Shared → Prop}
end
section
variable {X : Cx} {o e f : Expr} {apos cpos : Pos} {td ty tx : TE}
end
section
variable {X : Cx} {pins : List (Addr × Obj)} {σ : St} {H : Hp} {s : Shared} {a : Addr} {kvs : List (Key × V)} {A : Around} {E : Value → Shared → Prop}
end
section
variable {X : Cx} {pins : List (Addr × Obj)} {σ : St} {H : Hp} {s : Shared} {a : Addr} {y : V} {u : Value} {A : Around} {E : Value → Shared → Prop}
end
end L2
namespace HT
open PySem PyProof.Rows
section
open PySem.SeqAt
open PySem.AutoSeq1 (wpAny_loadPart')
open PySem.MeetsSeq PySem.MeetsSeq2 PySem.MeetsSeq3
end
section
variable {prog : Program} {w : World} {A : Around} {E : Value → Shared → Prop} {s : Shared}
def sIx (n d : Nat) : Option Int → Nat
  | none => d
  | some v => if v < 0 then (v + (n : Int)).toNat else min v.toNat n
theorem sIx_le (n d : Nat) (hd : d ≤ n) (o : Option Int) : sIx n d o ≤ n := by
  cases o with
  | none => exact hd
  | some v =>
    show (if v < 0 then (v + (n : Int)).toNat else min v.toNat n) ≤ n
    by_cases hv : v < 0
    · rw [if_pos hv]; omega
    · rw [if_neg hv]; exact Nat.min_le_right _ _
theorem clip_eq (v : Int) (n d : Nat) : (if v < 0 then max (v + (n : Int)) 0 else min v (n : Int)) = ((sIx n d (some v) : Nat) : Int) := by
  show (if v < 0 then max (v + (n : Int)) 0 else min v (n : Int)) = (((if v < 0 then (v + (n : Int)).toNat else min v.toNat n) : Nat) : Int)
  by_cases hv : v < 0
  · simp only [if_pos hv]; omega
  · simp only [if_neg hv]; omega
theorem adjust_gen (lo hi : Option Int) (n : Nat) : Builtin.Slice.sliceAdjust lo hi 1 (n : Int) = (((sIx n 0 lo : Nat) : Int), ((sIx n n hi : Nat) : Int)) := by
  have h1 : ¬ ((1 : Int) < 0) := by omega
  unfold Builtin.Slice.sliceAdjust
  simp only [h1, if_false]
  refine Prod.ext ?_ ?_
  · cases lo with
    | none => rfl
    | some v => exact clip_eq v n 0
  · cases hi with
    | none => rfl
    | some v => exact clip_eq v n n
theorem places_gen (i j : Nat) : Builtin.Slice.slicePlaces (i : Int) (j : Int) 1 = j - i := by
  unfold Builtin.Slice.slicePlaces
  have h1 : (1 : Int) > 0 := by omega
  simp only [h1, if_true, Int.ediv_one]
  split <;> omega
theorem slicePart_ {v : Value} {o : Option Int} {Q : Option Int → Shared → Prop} (p : IsPart v o) (h : Q o s) : wpAny (model prog w) A (Builtin.Slice.slicePartIndex v) Q E s := by
  cases p with
  | none => exact slicePart_none h
  | int i t => exact slicePart_int h
theorem sliceApplied_gen {sl : Addr} {vl vu : Value} {lo hi : Option Int} {n : Nat} {Q : Int × Int × Nat → Shared → Prop} (hs : s.heap.IsSliceOf sl vl vu .none) (pl : IsPart vl lo) (pu : IsPart vu hi)
    (h : Q (((sIx n 0 lo : Nat) : Int), 1, sIx n n hi - sIx n 0 lo) s) : wpAny (model prog w) A (Builtin.Slice.sliceApplied (.ref sl) (pure (n : Int))) Q E s := by
  obtain ⟨os, hos, hcs, hds⟩ := id hs
  unfold Builtin.Slice.sliceApplied Builtin.Slice.sliceFields
  refine wpAny_bind (wpAny_bind (wpAny_field hos hds (x := vl) rfl (wpAny_bind (wpAny_field hos hds (x := vu) rfl (wpAny_bind (wpAny_field hos hds (x := .none) rfl (wpAny_pure ?_)))))))
  refine wpAny_bind (slicePart_none ?_)
  show wpAny _ _ (if ((1 : Int) == 0) = true then _ else _) _ _ s
  rw [if_neg (by decide)]
  refine wpAny_bind (slicePart_ pl (wpAny_bind (slicePart_ pu (wpAny_bind (wpAny_pure ?_)))))
  show wpAny _ _ (match Builtin.Slice.sliceAdjust lo hi 1 (n : Int) with | (lo, hi) => pure (lo, (1 : Int), Builtin.Slice.slicePlaces lo hi 1)) _ _ s
  rw [adjust_gen lo hi n]
  show wpAny _ _ (pure (((sIx n 0 lo : Nat) : Int), (1 : Int), Builtin.Slice.slicePlaces ((sIx n 0 lo : Nat) : Int) ((sIx n n hi : Nat) : Int) 1)) _ _ s
  rw [places_gen]
  exact wpAny_pure h
theorem pick_gen (xs : Array Value) (i k : Nat) : ((List.range k).filterMap fun (m : Nat) => xs[((i : Int) + (m : Int) * 1).toNat]?).toArray = ((xs.toList.drop i).take k).toArray := by
  have e : (fun (m : Nat) => xs[((i : Int) + (m : Int) * 1).toNat]?) = fun m => xs[i + m]? := by
    funext m
    have : ((i : Int) + (m : Int) * 1).toNat = i + m := by omega
    rw [this]
  rw [e]
  have := pick_run xs i k
  rw [List.filterMap_map] at this
  have e2 : ((fun x => xs[x]?) ∘ fun x => i + x) = fun m => xs[i + m]? := rfl
  rw [e2] at this
  rw [this]
theorem getItem_tuple_cut {t sl : Addr} {items : Array Value} {vl vu : Value} {lo hi : Option Int} {Q : Value → Shared → Prop} (ht : IsTup s.heap t items) (hs : s.heap.IsSliceOf sl vl vu .none) (pl : IsPart vl lo) (pu : IsPart vu hi)
    (hw : ¬ (sIx items.size 0 lo = 0 ∧ sIx items.size items.size hi = items.size))
    (h : Q (.ref s.heap.objs.size) { s with heap := s.heap.push { cls := .type "tuple", data := .seq ((items.toList.drop (sIx items.size 0 lo)).take (sIx items.size items.size hi - sIx items.size 0 lo)).toArray } })
    (hsz : items.size ≤ sizeLine) : wpAny (model prog w) A (getItem (.ref t) (.ref sl)) Q E s := by
  have htake : sizeOk (.seq ((items.toList.drop (sIx items.size 0 lo)).take (sIx items.size items.size hi - sIx items.size 0 lo)).toArray) := by
    show ((items.toList.drop (sIx items.size 0 lo)).take (sIx items.size items.size hi - sIx items.size 0 lo)).toArray.size ≤ sizeLine
    rw [List.size_toArray, List.length_take, List.length_drop, Array.length_toList]
    omega
  have hj : sIx items.size items.size hi ≤ items.size := sIx_le _ _ (Nat.le_refl _) hi
  obtain ⟨os, hos, hcs, hds⟩ := id hs
  have hTs : s.TypeIs (.ref sl) "slice" := ⟨os, hos, hcs⟩
  unfold getItem
  try with_reducible refine wpAny_holding ?_
  first | refine wpAny_bind (wpAny_pure ?_) | skip
  refine wpAny_bind (wpAny_sequenceKey ht.typeIs (by decide) ?_)
  refine wpAny_bind (wpAny_callSpecial?_slot (name := Str.ofString "__getitem__") ht.typeIs PyProof.Rows.slot_tuple_getitem
    (wpAny_call_entry PyProof.Rows.slot_tuple_getitem ht.typeIs entry_tuple_getitem ?_ (args_tuple_getitem _ _)))
  show wpAny _ _ (Builtin.Tuple.tupleItemsOf (.ref t) >>= _) _ _ s
  refine wpAny_bind (tupleItemsOf_ ht ?_)
  refine wpAny_bind (wpAny_typeOf hTs ?_)
  rw [if_pos (by decide)]
  refine wpAny_bind (sliceApplied_gen hs pl pu ?_)
  have hno : ¬ ((((sIx items.size 0 lo : Nat) : Int) == 0 && (1 : Int) == 1 && (sIx items.size items.size hi - sIx items.size 0 lo) == items.size) = true) := by
    intro q
    rw [Bool.and_eq_true, Bool.and_eq_true] at q
    have q1 : ((sIx items.size 0 lo : Nat) : Int) = 0 := eq_of_beq q.1.1
    have q2 : sIx items.size items.size hi - sIx items.size 0 lo = items.size := eq_of_beq q.2
    exact hw ⟨by omega, by omega⟩
  show wpAny _ _ (if (((sIx items.size 0 lo : Nat) : Int) == 0 && (1 : Int) == 1 && (sIx items.size items.size hi - sIx items.size 0 lo) == items.size) = true then _ else _) _ _ s
  rw [if_neg hno, pick_gen]
  first
    | exact wpAny_bind (m := Builtin.Tuple.tupleExact _) (wpAny_newObj_type (wpAny_pure ⟨_, rfl, wpAny_pure h⟩) htake)
    | exact wpAny_bind (m := Builtin.Tuple.tupleExact _) (wpAny_newObj_type (wpAny_bind (wpAny_pure (wpAny_pure ⟨_, rfl, wpAny_pure h⟩))) htake)
    | exact wpAny_bind (wpAny_bind (m := Builtin.Tuple.tupleExact _) (wpAny_newObj_type (wpAny_pure (wpAny_pure ⟨_, rfl, wpAny_pure h⟩)) htake))
    | exact wpAny_bind (wpAny_bind (m := Builtin.Tuple.tupleExact _) (wpAny_newObj_type (wpAny_pure ⟨_, rfl, wpAny_pure h⟩) htake))
end
end HT
namespace L2
open PySem PySem.Spec PyProof.Rows
abbrev TO := St → Hp → (Option Int → Hp → Prop) → Prop
def PO (X : Cx) (e : Option Expr) (t : TO) : Prop :=
  ∀ (pins : List (Addr × Obj)) (s : Shared) (σ : St) (H : Hp) (Q : Option Int → Hp → Prop), Inv X pins σ H s → t σ H Q →
    wpAny (model X.prog X.w) X.A (evalPart e X.env) (fun u s' => ∃ o H', Inv X pins σ H' s' ∧ IsPart u o ∧ Q o H') X.xe s
def tNoPart : TO := fun _ H Q => Q none H
def tPart (t : TE) : TO := fun σ H Q => t σ H fun x H1 => ∃ i, x = .int i ∧ Q (some i) H1
section
variable {X : Cx} {e : Expr} {te : TE} {lo hi : Option Expr} {tl th : TO} {pos p2 : Pos}
theorem po_none : PO X none tNoPart := by
  intro pins s σ H Q I h
  rw [evalPart_none]
  exact wpAny_pure ⟨none, H, I, .none, h⟩
theorem po_some (h : PE X e te) : PO X (some e) (tPart te) := by
  intro pins s σ H Q I hw
  rw [evalPart_some]
  refine thn (h pins s σ H _ I hw) fun u s1 ⟨x, H1, I1, r1, q1⟩ => ?_
  obtain ⟨i, rfl, q⟩ := q1
  obtain ⟨t, rfl⟩ := r1
  exact ⟨some i, H1, I1, .int i t, q⟩
def SlR (X : Cx) (r : V → Option Int → Option Int → Hp → VK → Prop) : Prop :=
  ∀ (pins : List (Addr × Obj)) (s : Shared) (σ : St) (H : Hp) (x : V) (v vl vu : Value) (lo hi : Option Int) (sl : Addr) (Q : VK), Inv X pins σ H s → RelV x v → s.heap.IsSliceOf sl vl vu .none → IsPart vl lo → IsPart vu hi → r x lo hi H Q →
    ∃ T id, typeLookup (.type T) "__getitem__" = pure (some (.builtin id)) ∧ s.TypeIs v T ∧ wpAny (model X.prog X.w) X.A (getItem v (.ref sl)) (EP X pins σ Q) X.xe s
def tSl (r : V → Option Int → Option Int → Hp → VK → Prop) (te : TE) (tl th : TO) : TE := fun σ H Q => te σ H fun x H1 => tl σ H1 fun l H2 => th σ H2 fun u H3 => r x l u H3 Q
theorem pe_slice {r : V → Option Int → Option Int → Hp → VK → Prop} (hr : SlR X r) (he : PE X e te) (hl : PO X lo tl) (hu : PO X hi th) : PE X (.Subscript e (.Slice lo hi none p2) pos) (tSl r te tl th) := by
  intro pins s σ H Q I h
  refine Subscript_ (thn (he pins s σ H _ I h) fun v s1 ⟨x, H1, I1, r1, q1⟩ => ?_)
  refine wpAny_Slice (thn (hl pins s1 σ H1 _ I1 q1) fun vl s2 ⟨l, H2, I2, pl, q2⟩ => thn (hu pins s2 σ H2 _ I2 q2) fun vu s3 ⟨u, H3, I3, pu, q3⟩ => ?_)
  rw [evalPart_none]
  refine wpAny_pure ?_
  have I4 : Inv X pins σ H3 { s3 with heap := s3.heap.push { cls := .type "slice", data := .fields #[vl, vu, .none] } } := I3.kept (t' := s3.toks) fun b ob q => Heap.get?_push_of_some _ q
  obtain ⟨T, id, hT, ht, hg⟩ := hr pins { s3 with heap := s3.heap.push { cls := .type "slice", data := .fields #[vl, vu, .none] } } σ H3 x v vl vu l u s3.heap.objs.size Q I4 r1 (Heap.IsSliceOf.new ..) pl pu q3
  show wpAny (model X.prog X.w) X.A (subscriptTail e (.Slice lo hi none p2) v (.ref s3.heap.objs.size)) (EP X pins σ Q) X.xe { s3 with heap := s3.heap.push { cls := .type "slice", data := .fields #[vl, vu, .none] } }
  exact tail_any (ops := [.ref s3.heap.objs.size, v]) ht hT hg (by with_unfolding_all rfl)
def cutV (xs : List V) (lo hi : Option Int) : List V := (xs.drop (HT.sIx xs.length 0 lo)).take (HT.sIx xs.length xs.length hi - HT.sIx xs.length 0 lo)
theorem cutV_length (xs : List V) (lo hi : Option Int) : (cutV xs lo hi).length ≤ xs.length := by
  unfold cutV
  rw [List.length_take, List.length_drop]
  omega
def rSlT (K : PySem.W.Frag) : V → Option Int → Option Int → Hp → VK → Prop := fun x lo hi H Q => ∃ a xs, x = .ref a ∧ SqT K H a xs ∧
  ¬ (HT.sIx xs.length 0 lo = 0 ∧ HT.sIx xs.length xs.length hi = xs.length) ∧ ∀ p, H p = none → Q (.ref p) (upd H p (.tup (cutV xs lo hi)))
theorem sl_tup : SlR X (rSlT X.K) := by
  intro pins s σ H x v vl vu lo hi sl Q I rx hs pl pu h
  obtain ⟨a, xs, rfl, hx, hw, q⟩ := h
  cases rx
  obtain ⟨its, r, ht, hz⟩ := I.tuple hx
  have hlen : its.toArray.size = xs.length := by rw [List.size_toArray]; exact r.length.symm
  refine ⟨"tuple", _, PyProof.Rows.slot_tuple_getitem.lookup, ht.typeIs, ?_⟩
  refine HT.getItem_tuple_cut ht hs pl pu (by rw [hlen]; exact hw) ?_ (by rw [hlen]; exact hz)
  rw [hlen]
  refine ⟨.ref s.heap.objs.size, _, I.laid (t' := s.toks) (o := .tup (cutV xs lo hi)) (fun b ob q => Heap.get?_push_of_some _ q) (Nat.le_refl _) ?_, rfl, q _ (I.hok.fresh (Nat.le_refl _))⟩
  exact ⟨⟨Nat.le_trans (cutV_length xs lo hi) hz, new_bare⟩, _, (r.drop (HT.sIx xs.length 0 lo)).take (HT.sIx xs.length xs.length hi - HT.sIx xs.length 0 lo), IsTup.new _ _⟩
end
end L2
namespace L2
open PySem PySem.Spec PyProof.Rows
def ixN (n : Nat) (i : Int) : Option Nat := if 0 ≤ i then (if i < n then some i.toNat else none) else if -(n : Int) ≤ i then some (i + n).toNat else none
def atI {α : Type} (xs : List α) (i : Int) : Option α := (ixN xs.length i).bind fun j => xs[j]?
theorem ixN_seq {n : Nat} {i : Int} {j : Nat} (h : ixN n i = some j) : seqIndex? i n = some j ∧ j < n ∧ -(n : Int) ≤ i ∧ i < n := by
  unfold ixN at h
  by_cases h0 : 0 ≤ i
  · rw [if_pos h0] at h
    by_cases h1 : i < n
    · rw [if_pos h1] at h
      have e : i.toNat = j := Option.some.inj h
      exact ⟨by rw [seqIndex_of h0 h1, e], by omega, by omega, h1⟩
    · rw [if_neg h1] at h; cases h
  · rw [if_neg h0] at h
    by_cases h1 : -(n : Int) ≤ i
    · rw [if_pos h1] at h
      have e : (i + n).toNat = j := Option.some.inj h
      exact ⟨by rw [seqIndex_neg (by omega) h1, e], by omega, h1, by omega⟩
    · rw [if_neg h1] at h; cases h
theorem atI_get {α : Type} {xs : List α} {i : Int} {v : α} (h : atI xs i = some v) : ∃ j, seqIndex? i xs.length = some j ∧ xs[j]? = some v ∧ j < xs.length ∧ -(xs.length : Int) ≤ i ∧ i < xs.length := by
  unfold atI at h
  cases e : ixN xs.length i with
  | none => rw [e] at h; cases h
  | some j =>
    rw [e] at h
    obtain ⟨h1, h2, h3, h4⟩ := ixN_seq e
    exact ⟨j, h1, h, h2, h3, h4⟩
theorem atI_nat {α : Type} {xs : List α} {j : Nat} {v : α} (h : xs[j]? = some v) : atI xs (j : Int) = some v := by
  have hj : j < xs.length := (List.getElem?_eq_some_iff.mp h).1
  have e : ixN xs.length (j : Int) = some j := by
    unfold ixN
    rw [if_pos (by omega), if_pos (by omega)]; simp
  unfold atI; rw [e]; exact h
theorem atI_last {α : Type} (xs : List α) (v : α) : atI (xs ++ [v]) (-1) = some v := by
  have hl : (xs ++ [v]).length = xs.length + 1 := by simp
  have e : ixN (xs ++ [v]).length (-1) = some xs.length := by
    unfold ixN
    rw [hl, if_neg (by decide), if_pos (by omega)]
    congr 1
    omega
  unfold atI
  rw [e]
  show (xs ++ [v])[xs.length]? = some v
  simp
def PlainIx (b : Expr) : Prop := ∀ o i, subscripted b false o i = operate [o, i] (getItem o i)
def IxR (X : Cx) (r : R2) : Prop :=
  ∀ (value slice : Expr) (pins : List (Addr × Obj)) (s : Shared) (σ : St) (H : Hp) (x y : V) (v u : Value) (Q : VK), Inv X pins σ H s → RelV x v → RelV y u → r x y H Q →
    subscripted slice false v u = operate [v, u] (getItem v u) → wpAny (model X.prog X.w) X.A (subscriptTail value slice v u) (EP X pins σ Q) X.xe s
def MtR (X : Cx) (id : String) (r : V → List V → Hp → VK → Prop) : Prop :=
  ∀ (pins : List (Addr × Obj)) (s : Shared) (σ : St) (H : Hp) (x : V) (xs : List V) (v : Value) (us : List Value) (Q : VK), Inv X pins σ H s → RelV x v → Vals xs us → r x xs H Q →
    wpAny (model X.prog X.w) X.A (call (.builtin id) (v :: us)) (EP X pins σ Q) X.xe s
section
variable {X : Cx} {a b : Expr} {ta tb : TE} {pos : Pos}
theorem pe_ix {r : R2} (hr : IxR X r) (ha : PE X a ta) (hb : PE X b tb) (hs : PlainIx b) : PE X (.Subscript a b pos) (tOp r ta tb) := by
  intro pins s σ H Q I h
  exact Subscript_ (binT ha hb I h fun v u s2 x y H2 I2 rx ry q => hr a b pins s2 σ H2 x y v u Q I2 rx ry q (hs _ _))
def rIxL (K : PySem.W.Frag) : R2 := fun x y H Q => ∃ p xs i v, x = .ref p ∧ y = .int i ∧ SqL K H p xs ∧ atI xs i = some v ∧ Q v H
def rIxT (K : PySem.W.Frag) : R2 := fun x y H Q => ∃ p xs i v, x = .ref p ∧ y = .int i ∧ SqT K H p xs ∧ atI xs i = some v ∧ Q v H
theorem ix_list : IxR X (rIxL X.K) := by
  intro value slice pins s σ H x y v u Q I rx ry h hs
  obtain ⟨p, xs, i, z, rfl, rfl, hq, he, q⟩ := h
  cases rx
  obtain ⟨t, rfl⟩ := ry
  obtain ⟨its, r, pl, hz⟩ := I.list hq
  obtain ⟨j, h1, h2, h3, h4, h5⟩ := atI_get he
  obtain ⟨w, ew, rw'⟩ := r.get h2
  have hl := r.length
  have hn := line63
  have fin : EP X pins σ Q w s := ⟨z, H, I, rw', q⟩
  by_cases h0 : 0 ≤ i
  · have hj : i.toNat = j := by
      rw [seqIndex_of h0 h5] at h1
      exact Option.some.inj h1
    exact item_listR pl.isList h0 (by omega) (by rw [hj]; simpa using ew) fin hs
  · have hj : (i + (its.toArray.size : Int)).toNat = j := by
      rw [seqIndex_neg (by omega) h4] at h1
      rw [List.size_toArray, ← hl]
      exact Option.some.inj h1
    exact subscriptTail_builtinR (x := w) pl.isList.typeIs slot_list_getitem.lookup
      (wpAny_getItem_list_neg (Q := fun r s' => r = w ∧ EP X pins σ Q r s') pl.isList (by omega) (by rw [List.size_toArray] <;> omega) (by omega) (by rw [hj]; simpa using ew) ⟨rfl, fin⟩) hs
theorem ix_tup : IxR X (rIxT X.K) := by
  intro value slice pins s σ H x y v u Q I rx ry h hs
  obtain ⟨p, xs, i, z, rfl, rfl, hq, he, q⟩ := h
  cases rx
  obtain ⟨t, rfl⟩ := ry
  obtain ⟨its, r, pl, hz⟩ := I.tuple hq
  obtain ⟨j, h1, h2, h3, h4, h5⟩ := atI_get he
  obtain ⟨w, ew, rw'⟩ := r.get h2
  have hl := r.length
  have hn := line63
  have fin : EP X pins σ Q w s := ⟨z, H, I, rw', q⟩
  exact subscriptTail_builtinR (x := w) pl.typeIs slot_tuple_getitem.lookup
    (getItem_tuple (j := j) (Q := fun r s' => r = w ∧ EP X pins σ Q r s') pl (by omega) (by omega) (by rw [List.size_toArray, ← hl]; exact h1) (by simpa using ew) ⟨rfl, fin⟩) hs
theorem mapSeq_set (its : List Value) (n j : Nat) (u : Value) : Obj.mapSeq (·.setIfInBounds j u) { cls := .type "list", data := .seq its.toArray n } = { cls := .type "list", data := .seq (its.set j u).toArray n } := by
  simp [Obj.mapSeq]
theorem Inv.lst {pins : List (Addr × Obj)} {σ : St} {H : Hp} {s : Shared} {p : Addr} {xs : List V} (I : Inv X pins σ H s) (h : H p = some (.lst xs)) :
    ∃ (its : List Value) (n : Nat), Vals xs its ∧ s.heap.get? p = some { cls := .type "list", data := .seq its.toArray n } ∧ xs.length ≤ sizeLine := by
  obtain ⟨z, its, n, r, e⟩ := I.hok p _ h
  exact ⟨its, n, r, e, z⟩
theorem Inv.lstUpd {pins : List (Addr × Obj)} {σ : St} {H : Hp} {s : Shared} {p : Addr} {xs ys : List V} {its its' : List Value} {n n' : Nat} {f : Obj → Obj} (I : Inv X pins σ H s) (h : H p = some (.lst xs))
    (ho : s.heap.get? p = some { cls := .type "list", data := .seq its.toArray n }) (hf : f { cls := .type "list", data := .seq its.toArray n } = { cls := .type "list", data := .seq its'.toArray n' }) (r : Vals ys its') (hz : ys.length ≤ sizeLine) (t : Nat) :
    Inv X pins σ (upd H p (.lst ys)) { s with heap := s.heap.update p f, toks := t } := by
  have e : (s.heap.update p f).get? p = some { cls := .type "list", data := .seq its'.toArray n' } := by
    rw [Heap.get?_update_self f ho (by rw [hf] <;> rfl), hf]
  refine I.write (x := p) (e := p) (by rw [h]; trivial) (.inl rfl) (fun b u hb q => (Heap.get?_update_other _ _ (Ne.symm hb)).trans q) ⟨_, e⟩ ?_
  exact ⟨hz, its', n', r, e⟩
def rSetL : V → V → V → Hp → (Hp → Prop) → Prop := fun o i v H Q => ∃ p xs k j, o = .ref p ∧ i = .int k ∧ H p = some (.lst xs) ∧ ixN xs.length k = some j ∧ Q (upd H p (.lst (xs.set j v)))
theorem set_list : PSet X rSetL := by
  intro pins s σ H o i v ov iv u Q I ro ri rv h
  obtain ⟨p, xs, k, j, rfl, rfl, hp, hj, q⟩ := h
  cases ro
  obtain ⟨t, rfl⟩ := ri
  obtain ⟨its, n, r, ho, hz⟩ := I.lst hp
  obtain ⟨h1, h2, h3, h4⟩ := ixN_seq hj
  have hl := r.length
  have hn := line63
  have I' : Inv X pins σ (upd H p (.lst (xs.set j v))) { s with heap := s.heap.update p (Obj.mapSeq (·.setIfInBounds j u)) } :=
    I.lstUpd hp ho (mapSeq_set its n j u) (r.set rv j) (by rw [List.length_set]; exact hz) s.toks
  by_cases h0 : 0 ≤ k
  · have hk : k.toNat = j := by
      rw [seqIndex_of h0 h4] at h1
      exact Option.some.inj h1
    exact PySem.W.ki_setAt ho h0 (by omega) (by rw [List.size_toArray, ← hl]; exact h4) (by rw [hk]; exact ⟨_, I', q⟩)
  · have hk : (k + (its.toArray.size : Int)).toNat = j := by
      rw [seqIndex_neg (by omega) h3] at h1
      rw [List.size_toArray, ← hl]
      exact Option.some.inj h1
    exact PySem.W.ki_setBack ho (by omega) (by rw [List.size_toArray, ← hl]; exact h3) (by omega) (by rw [hk]; exact ⟨_, I', q⟩)
theorem slice_bounds (lo hi : Option Int) (n : Nat) : (sliceBounds lo hi none n).1 = ((HT.sIx n 0 lo : Nat) : Int) ∧ (sliceBounds lo hi none n).2.1 = ((HT.sIx n n hi : Nat) : Int) ∧ (sliceBounds lo hi none n).2.2 = 1 := by
  refine ⟨?_, ?_, rfl⟩
  · cases lo with
    | none => simp [sliceBounds, HT.sIx]
    | some i =>
      simp only [sliceBounds, HT.sIx, Option.getD_none, show (1 : Int) > 0 by decide, if_true]
      by_cases h : i < 0
      · simp only [h, if_true] <;> omega
      · simp only [h, if_false] <;> omega
  · cases hi with
    | none => simp [sliceBounds, HT.sIx]
    | some i =>
      simp only [sliceBounds, HT.sIx, Option.getD_none, show (1 : Int) > 0 by decide, if_true]
      by_cases h : i < 0
      · simp only [h, if_true] <;> omega
      · simp only [h, if_false] <;> omega
theorem slicePick_cut (its : List Value) (lo hi : Option Int) : slicePick its.toArray lo hi none = ((its.drop (HT.sIx its.length 0 lo)).take (HT.sIx its.length its.length hi - HT.sIx its.length 0 lo)).toArray := by
  obtain ⟨h1, h2, h3⟩ := slice_bounds lo hi its.toArray.size
  unfold slicePick
  rw [h1, h2, h3]
  simp only [sliceRange_one, pick_run, List.size_toArray] <;> rfl
def rSlL (K : PySem.W.Frag) : V → Option Int → Option Int → Hp → VK → Prop := fun x lo hi H Q => ∃ a xs, x = .ref a ∧ SqL K H a xs ∧ ∀ p, H p = none → Q (.ref p) (upd H p (.lst (cutV xs lo hi)))
theorem sl_list : SlR X (rSlL X.K) := by
  intro pins s σ H x v vl vu lo hi sl Q I rx hs pl pu h
  obtain ⟨a, xs, rfl, hx, q⟩ := h
  cases rx
  obtain ⟨its, r, ht, hz⟩ := I.list hx
  have hlen := r.length
  refine ⟨"list", _, slot_list_getitem.lookup, ht.isList.typeIs, ?_⟩
  refine wpAny_getItem_list_slice ht.isList hs pl pu .none (by simp) ?_ (by rw [List.size_toArray] <;> omega)
  rw [slicePick_cut, ← hlen]
  refine ⟨.ref s.heap.objs.size, _, I.laid (t' := s.toks) (o := .lst (cutV xs lo hi)) (fun b ob q => Heap.get?_push_of_some _ q) (Nat.le_refl _) ?_, rfl, q _ (I.hok.fresh (Nat.le_refl _))⟩
  exact ⟨Nat.le_trans (cutV_length xs lo hi) hz, _, 0, (r.drop (HT.sIx xs.length 0 lo)).take (HT.sIx xs.length xs.length hi - HT.sIx xs.length 0 lo), Heap.get?_push_size _ rfl⟩
def flatV : V → Bool
  | .non => true
  | .bl _ => true
  | .int _ => true
  | .str _ => true
  | _ => false
def eqV : V → V → Bool
  | .non, .non => true
  | .bl a, .bl b => a == b
  | .bl a, .int b => (if a then 1 else 0) == b
  | .int a, .bl b => a == (if b then 1 else 0)
  | .int a, .int b => a == b
  | .str a, .str b => a == b
  | _, _ => false
theorem eqAt_V {A : Around} {s : Shared} {y x : V} {u v : Value} (ry : RelV y u) (rx : RelV x v) (fy : flatV y = true) (fx : flatV x = true) : SeqAt.EqAt A s u v (eqV y x) := by
  cases y with
  | non =>
    cases ry
    cases x with
    | non => cases rx; exact SeqAt.EqAt.same _
    | bl b => cases rx; exact SeqAt.EqAt.none_bool b
    | int b => obtain ⟨t, rfl⟩ := rx; exact SeqAt.EqAt.none_int b t
    | str b => obtain ⟨t, rfl⟩ := rx; exact SeqAt.EqAt.none_str b t
    | _ => exact absurd (show false = true from fx) Bool.false_ne_true
  | bl a =>
    cases ry
    cases x with
    | non => cases rx; exact SeqAt.EqAt.bool_none a
    | bl b => cases rx; exact SeqAt.EqAt.bool_bool a b
    | int b => obtain ⟨t, rfl⟩ := rx; exact SeqAt.EqAt.bool_int a b t
    | str b => obtain ⟨t, rfl⟩ := rx; exact SeqAt.EqAt.bool_str a b t
    | _ => exact absurd (show false = true from fx) Bool.false_ne_true
  | int a =>
    obtain ⟨t', rfl⟩ := ry
    cases x with
    | non => cases rx; exact SeqAt.EqAt.int_none a t'
    | bl b => cases rx; exact SeqAt.EqAt.int_bool a t' b
    | int b => obtain ⟨t, rfl⟩ := rx; exact SeqAt.EqAt.int_int a t' b t
    | str b => obtain ⟨t, rfl⟩ := rx; exact SeqAt.EqAt.int_str a t' b t
    | _ => exact absurd (show false = true from fx) Bool.false_ne_true
  | str a =>
    obtain ⟨t', rfl⟩ := ry
    cases x with
    | non => cases rx; exact SeqAt.EqAt.str_none a t'
    | bl b => cases rx; exact SeqAt.EqAt.str_bool a t' b
    | int b => obtain ⟨t, rfl⟩ := rx; exact SeqAt.EqAt.str_int a t' b t
    | str b => obtain ⟨t, rfl⟩ := rx; exact SeqAt.EqAt.str_str a t' b t
    | _ => exact absurd (show false = true from fx) Bool.false_ne_true
  | _ => exact absurd (show false = true from fy) Bool.false_ne_true
def eqU (x : V) (u : Value) : Bool := match u with
  | .none => eqV .non x
  | .bool b => eqV (.bl b) x
  | .int i _ => eqV (.int i) x
  | .str z _ => eqV (.str z) x
  | _ => false
theorem eqU_of {x y : V} {u : Value} (r : RelV y u) (f : flatV y = true) : eqU x u = eqV y x := by
  cases y with
  | non => cases r; rfl
  | bl b => cases r; rfl
  | int i => obtain ⟨t, rfl⟩ := r; rfl
  | str z => obtain ⟨t, rfl⟩ := r; rfl
  | _ => exact absurd (show false = true from f) Bool.false_ne_true
theorem any_eqU {x : V} : ∀ {xs : List V} {us : List Value}, Vals xs us → xs.all flatV = true → us.any (eqU x) = xs.any fun y => eqV y x
  | _, _, .nil, _ => rfl
  | y :: xs, u :: us, .cons r t, f => by
    rw [List.all_cons, Bool.and_eq_true] at f
    rw [List.any_cons, List.any_cons, eqU_of r f.1, any_eqU t f.2]
theorem mem_eqAt {A : Around} {s : Shared} {x : V} {v : Value} (rx : RelV x v) (fx : flatV x = true) : ∀ {xs : List V} {us : List Value}, Vals xs us → xs.all flatV = true → ∀ u ∈ us, SeqAt.EqAt A s u v (eqU x u)
  | _, _, .nil, _ => fun u hu => by cases hu
  | y :: xs, u :: us, .cons r t, f => fun u' hu => by
    rw [List.all_cons, Bool.and_eq_true] at f
    rcases List.mem_cons.mp hu with rfl | hu
    · rw [eqU_of r f.1]; exact eqAt_V r rx f.1 fx
    · exact mem_eqAt rx fx t f.2 u' hu
def inV (x : V) (xs : List V) : Bool := xs.any fun y => eqV y x
def rIn (K : PySem.W.Frag) (neg : Bool) : R2 := fun x y H Q => ∃ p xs, y = .ref p ∧ (SqL K H p xs ∨ SqT K H p xs) ∧ flatV x = true ∧ xs.all flatV = true ∧ Q (.bl (if neg then !inV x xs else inV x xs)) H
theorem op_in_seq : OpR X (compareOp .In) (rIn X.K false) := by
  intro pins s σ H x y v u Q I rx ry h
  obtain ⟨p, xs, rfl, hq, fx, fs, q⟩ := h
  cases ry
  rcases hq with hq | hq
  · obtain ⟨its, r, pl, hz⟩ := I.list hq
    refine SeqAt.in_listAt (eqU x) pl.isList (fun w hw => mem_eqAt rx fx r fs w (by simpa using hw)) ⟨.bl _, H, I, rfl, ?_⟩
    rw [show its.toArray.any (eqU x) = its.any (eqU x) by simp, any_eqU r fs]
    exact q
  · obtain ⟨its, r, pl, hz⟩ := I.tuple hq
    refine SeqAt.in_tupleAt (eqU x) pl (fun w hw => mem_eqAt rx fx r fs w (by simpa using hw)) ⟨.bl _, H, I, rfl, ?_⟩
    rw [show its.toArray.any (eqU x) = its.any (eqU x) by simp, any_eqU r fs]
    exact q
theorem call_len_seq : CallR X (.builtin "len") (fun xs H Q => ∃ p ys, xs = [.ref p] ∧ (SqL X.K H p ys ∨ SqT X.K H p ys) ∧ Q (.int ys.length) H) := by
  intro pins s σ H xs us Q I r h
  obtain ⟨p, ys, rfl, hq, q⟩ := h
  obtain ⟨u, rfl, rx⟩ := vals1 r
  cases rx
  have hn := line63
  rcases hq with hq | hq
  · obtain ⟨its, r', pl, hz⟩ := I.list hq
    have hlen := r'.length
    exact Calls.call_len_list pl.isList (by simp only [List.size_toArray] <;> omega) ⟨.int ys.length, H, I.tok _, ⟨s.toks + 1, by rw [List.size_toArray, hlen]⟩, q⟩
  · obtain ⟨its, r', pl, hz⟩ := I.tuple hq
    have hlen := r'.length
    exact len_tuple pl (by simp only [List.size_toArray] <;> omega) ⟨.int ys.length, H, I.tok _, ⟨s.toks + 1, by rw [List.size_toArray, hlen]⟩, q⟩
theorem call_tuple_of : CallR X (.type "tuple") (fun xs H Q => ∃ p ys, xs = [.ref p] ∧ ((SqL X.K H p ys ∧ ∀ l, H l = none → Q (.ref l) (upd H l (.tup ys))) ∨ (SqT X.K H p ys ∧ Q (.ref p) H))) := by
  intro pins s σ H xs us Q I r h
  obtain ⟨p, ys, rfl, h⟩ := h
  obtain ⟨u, rfl, rx⟩ := vals1 r
  cases rx
  rcases h with ⟨hq, q⟩ | ⟨hq, q⟩
  · obtain ⟨its, r', pl, hz⟩ := I.list hq
    have hlen := r'.length
    refine call_tuple_list pl.isList (fun h' kp => ?_) (by simp only [List.size_toArray] <;> omega)
    have I1 : Inv X pins σ H { s with heap := h' } := I.kept (t' := s.toks) kp
    have I2 : Inv X pins σ (upd H h'.objs.size (.tup ys)) { s with heap := h'.push { cls := .type "tuple", data := .seq its.toArray } } :=
      I1.laid (t' := s.toks) (fun b o e => Heap.get?_push_of_some _ e) (Nat.le_refl _) (show ObjOk X.prog X.w _ _ _ (.tup ys) from ⟨⟨hz, new_bare⟩, its, r', IsTup.new _ _⟩)
    exact ⟨.ref h'.objs.size, _, I2, rfl, q _ (I1.hok.fresh (Nat.le_refl _))⟩
  · obtain ⟨its, r', pl, hz⟩ := I.tuple hq
    exact call_tuple_same pl ⟨.ref p, H, I, rfl, q⟩
def tyV (K : PySem.W.Frag) (T : String) (x : V) (H : Hp) : Prop := match x with
  | .str _ => T = "str"
  | .int _ => T = "int"
  | .ref p => (T = "list" ∧ ∃ xs, SqL K H p xs) ∨ (T = "tuple" ∧ ((∃ o, K.lookup p = some o ∧ o.cls = .type "tuple" ∧ o.dict = none) ∨ ∃ xs, H p = some (.tup xs))) ∨
      (T = "dict" ∧ ((∃ kvs, H p = some (.dK kvs)) ∨ ∃ kvs, H p = some (.dT kvs))) ∨ (T = "set" ∧ ∃ S n, H p = some (.set S n))
  | _ => False
theorem tyV_is {pins : List (Addr × Obj)} {σ : St} {H : Hp} {s : Shared} {T : String} {x : V} {v : Value} (I : Inv X pins σ H s) (r : RelV x v) (ty : tyV X.K T x H) :
    s.TypeIs v T ∧ ∀ a, v = .ref a → ∃ ob, s.heap.get? a = some ob ∧ ob.dict = none := by
  cases x with
  | str z =>
    obtain ⟨t, rfl⟩ := r
    cases (show T = "str" from ty)
    exact ⟨typeIs_str s z t, fun _ e => nomatch e⟩
  | int i =>
    obtain ⟨t, rfl⟩ := r
    cases (show T = "int" from ty)
    exact ⟨typeIs_int s i t, fun _ e => nomatch e⟩
  | ref p =>
    cases r
    rcases ty with ⟨rfl, xs, hq⟩ | ⟨rfl, ⟨o, hk, hc, hd⟩ | ⟨xs, hk⟩⟩ | ⟨rfl, hk⟩ | ⟨rfl, S, n, hk⟩
    · obtain ⟨its, _, pl, _⟩ := I.list hq
      refine ⟨pl.isList.typeIs, fun a e => ?_⟩
      cases e
      obtain ⟨o, n, e, c, hd, _⟩ := pl
      exact ⟨o, e, hd⟩
    · refine ⟨⟨o, I.kIn p o hk, hc⟩, fun a e => ?_⟩
      cases e
      exact ⟨o, I.kIn _ o hk, hd⟩
    · obtain ⟨nb, _, _, o, e, c, _⟩ := I.hok p _ hk
      exact ⟨⟨o, e, c⟩, fun a z => by cases z; exact ⟨o, e, nb.2 o e⟩⟩
    · have z : ∃ o, s.heap.get? p = some o ∧ o.ExactDict := by
        rcases hk with ⟨kvs, hk⟩ | ⟨kvs, hk⟩
        · obtain ⟨_, _, _, _, o, _, _, e, ex, _⟩ := I.hok p _ hk
          exact ⟨o, e, ex⟩
        · obtain ⟨_, _, _, _, o, _, _, e, ex, _⟩ := I.hok p _ hk
          exact ⟨o, e, ex⟩
      obtain ⟨o, e, ex⟩ := z
      refine ⟨⟨o, e, ex.1⟩, fun a e2 => ?_⟩
      cases e2
      exact ⟨o, e, ex.2.1⟩
    · obtain ⟨o, _, _, _, e, ex, _⟩ := I.hok p _ hk
      refine ⟨⟨o, e, ex.1⟩, fun a e2 => ?_⟩
      cases e2
      exact ⟨o, e, ex.2.1⟩
  | _ => exact False.elim ty
def tBM (K : PySem.W.Frag) (T : String) (r : V → List V → Hp → VK → Prop) (to : TE) (t : TA) : TE := fun σ H Q => to σ H fun x H1 => tyV K T x H1 ∧ t σ H1 fun xs H2 => r x xs H2 Q
variable {o e : Expr} {es : List Expr} {to : TE} {t : TA} {name : Str} {apos cpos : Pos} {T id : String} {r : V → List V → Hp → VK → Prop}
theorem pe_bm (pa : PlainAttrs T) (slot : Slot T name id) (hty : typeOf (.builtin id) = pure (.type "method_descriptor")) (hm : MtR X id r) (ho : PE X o to) (ha : PA X (e :: es) t)
    (hbase : attributeBase o name X.env (eval o X.env) = eval o X.env := by rfl)
    (hfew : ((backTo cpos (starEach (e :: es) X.env)).all (fun x => !x.1) && (backToKw cpos (keywordEach [] X.env)).all (fun x => x.1.isSome)
      && decide ((e :: es).length + ([] : List Keyword).length + (if ([] : List Keyword).isEmpty then 0 else 1) < 30)) = true := by rfl)
    (hline : (apos.endLine == cpos.line) = true := by rfl) (hs : starEach (e :: es) X.env = (false, eval e X.env) :: starEach es X.env := by rfl) (hplain : (backTo cpos (starEach es X.env)).any (·.1) = false := by rfl) :
    PE X (.Call (.Attribute o name apos) (e :: es) [] cpos) (tBM X.K T r to t) := by
  intro pins s σ H Q I h
  refine wpAny_Call_method_late hbase hfew hline rfl (thn (ho pins s σ H _ I h) fun v s1 ⟨x, H1, I1, r1, ty, q1⟩ => ?_)
  obtain ⟨h1, h2⟩ := tyV_is I1 r1 ty
  refine ⟨T, id, pa, slot, hty, h1, h2, ?_⟩
  have hA := ha cpos pins s1 σ H1 _ I1 q1
  rw [hs] at hA ⊢
  refine Calls.callWith_builtin (by show (false || (backTo cpos (starEach es X.env)).any (·.1)) = false; rw [hplain] <;> rfl) (Calls.evalArgs_plain ?_)
  exact thn hA fun us s2 ⟨vs, H2, I2, r2, q2⟩ => hm pins s2 σ H2 x vs v us Q I2 r1 r2 q2
/- xs.append(e), list.index on a module's tuple .. are MtR facts of 06m -/
end
end L2
namespace L2
open PySem PySem.Spec PyProof.Rows
def MtM (X : Cx) (id : String) (r : V → List V → Hp → VK → Prop) : Prop :=
  ∀ (pins : List (Addr × Obj)) (s : Shared) (σ : St) (H : Hp) (x : V) (xs : List V) (v : Value) (us : List Value) (Q : VK), Inv X pins σ H s → RelV x v → Vals xs us → r x xs H Q →
    wpAny (model X.prog X.w) X.A (call (.builtin id) (v :: us)) (EP X pins σ Q) X.xe s
theorem Vals.one : ∀ {x : V} {us : List Value}, Vals [x] us → ∃ u, us = [u] ∧ RelV x u
  | _, _, .cons r .nil => ⟨_, rfl, r⟩
theorem Vals.reverse {xs : List V} {us : List Value} (h : Vals xs us) : Vals xs.reverse us.reverse := by
  induction h with
  | nil => exact .nil
  | cons r t ih => rw [List.reverse_cons, List.reverse_cons]; exact Vals.append ih (.cons r .nil)
section
variable {X : Cx} {pins : List (Addr × Obj)} {σ : St} {H : Hp} {s : Shared} {l b : Addr} {xs ys zs : List V}
theorem Inv.lset {its its' : List Value} {n : Nat} {f : Array Value → Array Value} {t' : Nat} (I : Inv X pins σ H s) (hH : H l = some (.lst xs))
    (e : s.heap.get? l = some { cls := .type "list", data := .seq its.toArray n }) (hf : f its.toArray = its'.toArray) (hv : Vals ys its') (hz : ys.length ≤ sizeLine) :
    Inv X pins σ (upd H l (.lst ys)) { s with heap := s.heap.update l (Obj.mapSeq f), toks := t' } := by
  have q := PySem.IsL.update e f
  rw [hf] at q
  refine I.write (x := l) (e := l) (by rw [hH]; exact trivial) (.inl rfl) (fun b' u hb hu => (Heap.get?_update_other s.heap (Obj.mapSeq f) (Ne.symm hb)).trans hu) ⟨_, q⟩ ?_
  exact ⟨hz, its', _, hv, q⟩
theorem Inv.lnew {its : List Value} {t' : Nat} (I : Inv X pins σ H s) (hv : Vals ys its) (hz : ys.length ≤ sizeLine) :
    Inv X pins σ (upd H s.heap.objs.size (.lst ys)) { s with heap := s.heap.push { cls := .type "list", data := .seq its.toArray }, toks := t' } :=
  I.laid (fun _ _ q => Heap.get?_push_of_some _ q) (Nat.le_refl _) ⟨hz, its, 0, hv, Heap.get?_push_size _ rfl⟩
theorem Inv.fresh (I : Inv X pins σ H s) : H s.heap.objs.size = none := I.hok.fresh (Nat.le_refl _)
theorem Inv.lstM (I : Inv X pins σ H s) (hH : H l = some (.lst xs)) : xs.length ≤ sizeLine ∧ ∃ (its : List Value) (n : Nat), Vals xs its ∧ xs.length = its.length ∧ s.heap.get? l = some { cls := .type "list", data := .seq its.toArray n } := by
  obtain ⟨z, its, n, r, e⟩ := I.hok l _ hH
  exact ⟨z, its, n, r, r.length, e⟩
end
section
variable {X : Cx}
def rAppend : V → List V → Hp → VK → Prop := fun x vs H Q => ∃ l xs y, x = .ref l ∧ vs = [y] ∧ H l = some (.lst xs) ∧ xs.length < sizeLine ∧ Q .non (upd H l (.lst (xs ++ [y])))
theorem mt_append : MtM X "list.append" rAppend := by
  intro pins s σ H x vs v us Q I rx rv h
  obtain ⟨l, xs, y, rfl, rfl, hH, hz, q⟩ := h
  cases rx
  obtain ⟨u, rfl, ru⟩ := rv.one
  obtain ⟨z, its, n, r, hl, e⟩ := I.lstM hH
  refine call_meets F.slot_list_append ⟨_, e, rfl⟩ F.entry_list_append (F.args_list_append_2 _ _) (PySem.list_append l its.toArray n u (by rw [List.size_toArray]; omega)) ⟨e, ?_⟩
  refine ⟨.non, _, I.lset (its' := its ++ [u]) hH e (by simp) (r.append (.cons ru .nil)) ?_, rfl, q⟩
  rw [List.length_append, List.length_singleton]
  omega
def rCat : R2 := fun x y H Q => ∃ l b xs zs, x = .ref l ∧ y = .ref b ∧ H l = some (.lst xs) ∧ H b = some (.lst zs) ∧ xs.length + zs.length ≤ sizeLine ∧ ∀ p, H p = none → Q (.ref p) (upd H p (.lst (xs ++ zs)))
theorem op_cat : OpR X (binaryOp .Add) rCat := by
  intro pins s σ H x y v u Q I rx ry h
  obtain ⟨l, b, xs, zs, rfl, rfl, hH, hB, hz, q⟩ := h
  cases rx
  cases ry
  obtain ⟨z, its, n, r, hl, e⟩ := I.lstM hH
  obtain ⟨z2, its2, n2, r2, hl2, e2⟩ := I.lstM hB
  refine PySem.P.add_list e e2 ?_ (by rw [List.size_toArray, List.size_toArray]; omega)
  have ea : its.toArray ++ its2.toArray = (its ++ its2).toArray := by simp
  rw [ea]
  exact ⟨.ref _, _, I.lnew (t' := s.toks) (r.append r2) (by rw [List.length_append]; omega), rfl, q _ I.fresh⟩
end
section
variable {prog : Program} {w : World} {A : Around} {E : Value → Shared → Prop} {s : Shared}
set_option maxRecDepth 100000 in
end
section
variable {X : Cx}
end
end L2
namespace Att
open PySem PySem.W PySem.Calls PyProof.Rows
theorem ints_of_wellAll {P : Params} {h : Heap} : ∀ (ns : List Int) (vs : List Value), WellAll P h vs (ns.map WData.int) → IntsAre vs ns := by
  intro ns
  induction ns with
  | nil =>
    intro vs w
    rw [List.map_nil] at w
    cases w
    exact .nil
  | cons n ns ih =>
    intro vs w
    rw [List.map_cons] at w
    cases w with
    | cons a b =>
      cases a
      exact .cons _ _ (ih _ b)
theorem script_of {l : OpenLaw} {n : Nat} (hn : l.most = some n) {P : Params} {h : Heap} {args : List WData} {vals : List Value}
    (hpre : l.row.toRowW.claim.pre args = true) (hwl : WellAll P h vals args) :
    ∃ a vs ns, vals = [Value.ref a] ∧ args = [WData.list (ns.map WData.int)] ∧ h.get? a = some { cls := .type "list", data := .seq vs.toArray } ∧ IntsAre vs ns ∧ ns.length ≤ n := by
  have hsh : WShape.hasAll [] args [.list .int] = true := (pre_splitW hpre).1
  have hc : l.pre.holds [] { args := args } = true := (pre_splitW hpre).2
  obtain ⟨d, r, rfl, h1, h2⟩ := hasAllW_cons hsh
  obtain rfl := hasAllW_nil h2
  obtain ⟨xs, rfl, h3⟩ := hasW_list h1
  obtain ⟨ns, rfl⟩ := items_int h3
  have hlen : ns.length ≤ n := by
    unfold OpenLaw.pre at hc
    have h4 : (WTm.not (.lt (.lit (.int (n : Int))) (.len (.arg 0)))).holds [] { args := [.list (ns.map .int)] } = true := by
      have h4 := (holds_andW hc).1
      rw [hn] at h4
      exact h4
    have h5 := condW_of h4 (w_not (w_lt w_lit (w_len_list (w_arg rfl))))
    rw [List.length_map] at h5
    refine Nat.le_of_not_lt fun q => ?_
    have q' : (n : Int) < ((ns.length : Nat) : Int) := by omega
    first
      | (rw [decide_eq_true q'] at h5; exact absurd h5 (by decide))
      | (simp at h5; omega)
  cases hwl with
  | cons w1 w2 =>
    cases w2
    cases w1 with
    | list ho hall => exact ⟨_, _, ns, rfl, rfl, ho, ints_of_wellAll ns _ hall, hlen⟩
theorem post_true (l : OpenLaw) (args : List WData) : l.row.toRowW.claim.post args (.bool true) args = true :=
  postW_of (r := l.row.toRowW) (X := (true == true))
    (show WShape.has [] (.bool true) .bool = true by first | rfl | decide | simp [WShape.has, WShape.arms, WShape.armsAll])
    (show (WTm.eq .res (.lit (.bool true))).value [] { args := args, res := some (.bool true), after := args } = some (.bool (true == true)) from w_eq_bool (w_res rfl) w_lit) rfl
theorem attach_call {l : OpenLaw} {n : Nat} {q : Program} {loose : List Str} {XP : (Str → Option Value) → Heap → Prop} {YP : World → Heap → Prop} {d : DefRec}
    (hn : l.most = some n) (hdf : d.params.defaults = [])
    (call : ∀ (w : World) (s₀ s₁ : Shared) (mg mb : Str → Option Value) (fa : Addr) (o : Obj) (pm cd doc : Value) (a : Addr) (vs : List Value) (ns : List Int),
      Ground q loose [] XP w s₀ mg mb s₁.heap → YP w s₁.heap →
      s₁.heap.get? fa = some o → o.data = .func (docDef d.name d.params d.body d.scope pm cd doc) → s₁.heap.CodeRec cd d.name → mg d.name = some (.ref fa) →
      s₁.heap.get? a = some { cls := .type "list", data := .seq vs.toArray } → IntsAre vs ns → ns.length ≤ n → s₁.gens = #[] →
      codeAny (model l.prog w) callerA (.call (.ref fa) ⟨[.ref a], []⟩) (fun r s' => r = .ok (.ret (.bool true)) ∧ OldK s₁.heap s'.heap ∧ s'.os = s₁.os ∧ AllBare s'.gens) s₁) :
    WalkO q loose XP YP l.row.toRowW d [] (fun f vs => PySem.call f vs) := by
  intro w s₀ s₁ mg mb G Y fa o pm cd doc dV kV ho hd hcd hD hmg hg args vals as hpre hlay hrd hwl hlo
  obtain rfl : dV = .none := Dflts.none hD hdf
  obtain rfl : kV = .none := Dflts.noKw hD
  obtain ⟨a, vs, ns, rfl, rfl, hobj, hints, hlen⟩ := script_of hn hpre hwl
  refine enter_call (codeAny_mono (call w s₀ s₁ mg mb fa o pm cd doc a vs ns G Y ho (fd_plain hd) hcd hmg hobj hints hlen hg) fun r s' hq => ?_)
  obtain ⟨rfl, h2, h3, h4⟩ := hq
  exact ⟨.inl ⟨.bool true, .bool true, [], rfl, fun _ => rfl, .bool true, post_true l _, fun _ => ⟨List.Pairwise.nil, fun _ hm => (nomatch hm)⟩⟩, h2, h3, h4⟩
section
variable {prog : Program} {w : World} {A : Around} {E : Value → Shared → Prop} {s : Shared} {K : Frag}
def ledger (h : Heap) (L d : Addr) : List (Addr × Obj) := (List.range h.objs.size).filterMap fun a => if a = L ∨ a = d then none else (h.get? a).map fun o => (a, o)
end
end Att
namespace L2
open PySem PySem.Spec PyProof.Rows
theorem vals_ints : ∀ {vs : List Value} {ns : List Int}, IntsAre vs ns → Vals (ns.map V.int) vs
  | _, _, .nil => .nil
  | _, _, .cons n t h => .cons ⟨t, rfl⟩ (vals_ints h)
def Only (H : Hp) : Prop := ∀ b, H b = none ∨ ∃ o xs, H b = some (.frz o (.lst xs))
theorem law_call {P : Program} {w : World} {K : PySem.W.Frag} {mg mb : Str → Option Value} {CX : CXT} {k : Nat} {fa a : Addr} {fd : FuncData} {x : Str} {sp : Sp} {s₁ : Shared} {vs : List Value} {ns : List Int}
    (KX : K.In s₁.heap) (hns : s₁.heap.Ns mainGlobals mg) (hb : s₁.heap.Ns builtinsNs mb) (hbb : ∀ x : Str, x ≠ "__name__" → mb x = bootBuiltins x) (hlim : s₁.heap.NoLimit) (hg : s₁.gens = #[])
    (ha : s₁.heap.get? a = some { cls := .type "list", data := .seq vs.toArray }) (hi : IntsAre vs ns) (hl : ns.length ≤ sizeLine) (hr : Room k callerA)
    (F : ∀ base : Heap, K.In base → base.Ns mainGlobals mg → FnOk P w K mg base CX k fa fd [x] sp) (hbind : ∀ (s : Shared) (u : Value), BindsTo s fd ⟨[u], []⟩ [(x, u)])
    (hsp : ∀ H : Hp, Only H → SqL K H a (ns.map V.int) → sp [.ref a] H (fun v _ => v = .bl true) fun _ _ _ => False)
    (hCX : ∀ H e s', CX [] H s₁ (fun _ _ _ => False) e s' → False) :
    codeAny (model P w) callerA (.call (.ref fa) ⟨[.ref a], []⟩) (fun r s' => r = .ok (.ret (.bool true)) ∧ OldK s₁.heap s'.heap ∧ s'.os = s₁.os ∧ AllBare s'.gens) s₁ := by
  have rv := vals_ints hi
  have lenV := hi.length
  -- from an abstract heap in which nothing but the script may be tracked
  have core : ∀ H : Hp, Only H → SqL K H a (ns.map V.int) → HOk P w H s₁.heap → (∀ b, H b ≠ none → b = a) → (H a ≠ none → K.lookup a = none) →
      codeAny (model P w) callerA (.call (.ref fa) ⟨[.ref a], []⟩) (fun r s' => r = .ok (.ret (.bool true)) ∧ OldK s₁.heap s'.heap ∧ s'.os = s₁.os ∧ AllBare s'.gens) s₁ := by
    intro H hO hS hok hA hK
    have base_of : ∀ {b : Addr} {o : Obj}, s₁.heap.get? b = some o → H b = none → (hidT s₁.heap H).get? b = some o := fun e n => hidT_get e n
    have noA : ∀ {b : Addr} {o : Obj} {es : Array DictEntry} {ep : Nat}, s₁.heap.get? b = some o → o.data = .dict es ep → H b = none := fun {b o es ep} e d => by
      cases q : H b with
      | none => rfl
      | some u =>
        have e' : b = a := hA b (by rw [q]; simp)
        subst e'
        rw [ha] at e; cases e
        have d' : Data.seq vs.toArray _ = Data.dict es ep := d
        cases d'
    have nsK : ∀ {b : Addr} {m : Str → Option Value}, s₁.heap.Ns b m → (hidT s₁.heap H).Ns b m := fun {b m} ⟨o, es, ep, e, d, r⟩ => ⟨o, es, ep, base_of e (noA e d), d, r⟩
    have hKb : K.In (hidT s₁.heap H) := fun b o e => base_of (KX b o e) (by
      cases q : H b with
      | none => rfl
      | some u =>
        have e' : b = a := hA b (by rw [q]; simp)
        subst e'
        rw [hK (by rw [q]; simp)] at e; cases e)
    have hM : Mod K mg (hidT s₁.heap H) := ⟨hKb, nsK hns, ⟨mb, nsK hb, hbb⟩, let ⟨mc, h1, h2⟩ := hlim; ⟨mc, nsK h1, h2⟩⟩
    have e0 : Env0 P w K mg (hidT s₁.heap H) callerA [] s₁ H := ⟨rfl, hM, fun b o e => of_hidT e, Nat.le_of_eq (hidT_size _ _), trivial, fun b hb => absurd (show b ∈ ([] : List Addr) from hb) (by simp), hok, .of_eq hg⟩
    refine codeAny_mono ((F _ hKb (nsK hns)).run callerA [] s₁ H ⟨[.ref a], []⟩ [.ref a] [.ref a] _ _ hr e0 (hbind s₁ (.ref a)) (.cons rfl .nil) (hsp H hO hS)) fun r s' h => ?_
    cases r with
    | error e => exact (hCX H e s' h).elim
    | ok fl =>
      cases fl with
      | next => exact False.elim h
      | brk => exact False.elim h
      | cont => exact False.elim h
      | ret u =>
        obtain ⟨v, H', os, bare, un, hok', r', q⟩ := h
        have q' : v = .bl true := q
        subst q'
        obtain rfl : u = Value.bool true := r'
        refine ⟨rfl, OldK.of_keep fun b o e => ?_, os, bare⟩
        cases q : H b with
        | none => exact un.keep b o e q (by intro z; exact absurd (show b ∈ ([] : List Addr) from z) (by simp)) (by simp)
        | some u =>
          rcases hO b with z | ⟨ob, xs, z⟩
          · rw [q] at z; cases z
          · have z2 := un.frzs b ob _ z
            obtain ⟨e1, _⟩ := hok b _ z
            obtain ⟨e2, _⟩ := hok' b _ z2
            rw [e] at e1; cases e1
            exact e2
  cases hk : K.lookup a with
  | some o =>
    -- the script is one of the module's own objects
    have e := KX a o hk
    rw [ha] at e
    cases e
    refine core (fun _ => none) (fun _ => .inl rfl) (.inr ⟨_, vs.toArray, _, hk, rfl, rfl, rfl, by rw [List.size_toArray, lenV]; exact hl, by simpa using rv⟩) (fun b u z => by have z' : (none : Option HO) = some u := z; cases z') (fun b z => absurd rfl z) fun z => absurd rfl z
  | none =>
    refine core (fun b => if b = a then some (.frz { cls := .type "list", data := .seq vs.toArray } (.lst (ns.map V.int))) else none) (fun b => ?_) (.inl (.inr ⟨{ cls := .type "list", data := .seq vs.toArray }, if_pos rfl⟩)) (fun b u z => ?_) (fun b z => ?_) fun _ => hk
    · by_cases hb : b = a
      · exact .inr ⟨_, _, if_pos hb⟩
      · exact .inl (if_neg hb)
    · by_cases hb : b = a
      · have z' := (if_pos hb).symm.trans z
        cases z'
        subst hb
        exact ⟨ha, by rw [List.length_map]; exact hl, vs, _, rv, ha⟩
      · have z' := (if_neg hb).symm.trans z
        cases z'
    · by_cases hb : b = a
      · exact hb
      · exact absurd (if_neg hb) z
end L2
namespace L2
open PySem PySem.Spec PyProof.Rows
theorem walk_of {l : PySem.W.OpenLaw} {n k : Nat} {q : Program} {loose : List Str} {XP : (Str → Option Value) → Heap → Prop} {YP : World → Heap → Prop} {d : DefRec} {K : Params → PySem.W.Frag} {CX : World → CXT} {sp : World → Sp} {x : Str}
    (hn : l.most = some n) (hn2 : n ≤ sizeLine) (hdf : d.params.defaults = []) (hr : Room k callerA)
    (hY : ∀ (w : World) (h : Heap), YP w h → (K w.params).In h)
    (F : ∀ (w : World) (mg : Str → Option Value) (fa : Addr) (h : Heap), (K w.params).In h → h.Ns mainGlobals mg → mg d.name = some (.ref fa) →
      ∃ fd : FuncData, (∀ (s : Shared) (u : Value), BindsTo s fd ⟨[u], []⟩ [(x, u)]) ∧
        ∀ base : Heap, (K w.params).In base → base.Ns mainGlobals mg → FnOk l.prog w (K w.params) mg base (CX w) k fa fd [x] (sp w))
    (hsp : ∀ (w : World) (H : Hp) (a : Addr) (ns : List Int), ns.length ≤ n → Only H → SqL (K w.params) H a (ns.map V.int) → sp w [.ref a] H (fun v _ => v = .bl true) fun _ _ _ => False)
    (hCX : ∀ (w : World) (H : Hp) (s : Shared) (e : Value) (s' : Shared), CX w [] H s (fun _ _ _ => False) e s' → False) :
    PySem.W.WalkO q loose XP YP l.row.toRowW d [] (fun f vs => PySem.call f vs) := by
  refine Att.attach_call hn hdf fun w s₀ s₁ mg mb fa o pm cd doc a vs ns G Y ho hd hcd hmg hobj hints hlen hg => ?_
  have KX := hY w _ Y
  obtain ⟨fd, hb, hF⟩ := F w mg fa _ KX G.T.g hmg
  exact law_call KX G.T.g G.T.b G.T.builtins G.T.nolimit hg hobj hints (Nat.le_trans hlen hn2) hr hF hb (fun H hO hS => hsp w H a ns hlen hO hS) fun H e s' => hCX w H s₁ e s'
end L2
namespace L2
open PySem PySem.Spec PyProof.Rows
def defArgs (s : Stmt) : Arguments := match s with
  | .FunctionDef _ a _ _ _ _ _ _ _ _ => a
  | _ => { posonlyargs := [], args := [], vararg := none, kwonlyargs := [], kw_defaults := [], kwarg := none, defaults := [] }
def defBody (s : Stmt) : List Stmt := match s with
  | .FunctionDef _ _ b _ _ _ _ _ _ _ => b
  | _ => []
def defScope (s : Stmt) : Scope := match s with
  | .FunctionDef _ _ _ _ _ _ sc _ _ _ => sc
  | _ => { kind := .function, names := [], isGenerator := false, isCoroutine := false }
abbrev CX0 : CXT := fun _ _ _ _ _ _ => False
abbrev E0 : XK := fun _ _ _ => False
theorem pass0 {X : Cx} : Passes CX0 X E0 := fun _ _ _ _ _ _ _ h => h.elim
structure Fun (K : PySem.W.Frag) (x qual : Str) (st : Stmt) (f : Addr) (fd : FuncData) : Prop where
  ex : ∃ (oc : Value) (od : Option Addr) (kV doc pm : Value) (an : Option Addr) (cdv ct : Value) (osl : Array (Option Value)),
    fd = PySem.W.fnOf x qual (defArgs st) (defBody st) (defScope st) .none kV doc pm an cdv ct ∧ K.lookup f = some ⟨oc, od, .func fd, osl⟩ ∧ PySem.W.codeIn K cdv qual = true
  kp : PySem.W.keepIn K (.ref f) = true
section
variable {P : Program} {w : World} {K : PySem.W.Frag} {mg : Str → Option Value} {base : Heap}
theorem Fun.ok {x qual : Str} {st : Stmt} {f : Addr} {fd : FuncData} {N ps : List Str} {k : Nat} {sp : Sp} (F : Fun K x qual st f fd) (S : FnScope N ps (defScope st)) (len : ∀ vs H Q E, sp vs H Q E → vs.length = ps.length)
    (hbody : ∀ (cdv : Value) (A : Around) (outer : List Env) (s : Shared) (H : Hp) (vs : List V) (Q : VK) (E : XK), Room k (A.deeper (envOfC qual (defScope st) s.heap.objs.size f cdv)) → sp vs H Q E →
      ∃ t, PSs (cxOf CX0 P w K mg base N qual (defScope st) f cdv A outer s H E).nox (defBody st) t ∧ t { nx := fun _ H' => Q .non H', rt := Q } (start N vs) H) : FnOk P w K mg base CX0 (k + 1) f fd ps sp := by
  obtain ⟨oc, od, kV, doc, pm, an, cdv, ct, osl, rfl, lk, hcd⟩ := F.ex
  refine fn_of lk hcd S len fun A outer s H vs Q E hr hsp => ?_
  obtain ⟨t, h, q⟩ := hbody cdv A outer s H vs Q E hr hsp
  exact ⟨t, h.nox, q⟩
theorem Fun.binds {x qual : Str} {st : Stmt} {f : Addr} {fd : FuncData} {ps : List Str} (F : Fun K x qual st f fd)
    (h : ∀ (kV doc pm : Value) (an : Option Addr) (cdv ct : Value) (us : List Value), us.length = ps.length → bindArgs (PySem.W.fnOf x qual (defArgs st) (defBody st) (defScope st) .none kV doc pm an cdv ct) ⟨us, []⟩ = pure (ps.zip us)) : Binds K fd ps [] := by
  obtain ⟨oc, od, kV, doc, pm, an, cdv, ct, osl, rfl, lk, hcd⟩ := F.ex
  exact .all (h kV doc pm an cdv ct)
theorem fun_mk {x qual : Str} {st : Stmt} {f : Addr} {oc : Value} {od an : Option Addr} {osl : Array (Option Value)} {kV doc pm cdv ct : Value} (l : K.lookup f = some ⟨oc, od, .func (PySem.W.fnOf x qual (defArgs st) (defBody st) (defScope st) .none kV doc pm an cdv ct), osl⟩)
    (c : PySem.W.codeIn K cdv qual = true) (k : PySem.W.keepIn K (.ref f) = true) : Fun K x qual st f (PySem.W.fnOf x qual (defArgs st) (defBody st) (defScope st) .none kV doc pm an cdv ct) := ⟨⟨oc, od, kV, doc, pm, an, cdv, ct, osl, rfl, l, c⟩, k⟩
end
section
variable {X : Cx}
theorem pv (i : Nat) {x : Str} {pos : Pos} (hN : X.N[i]? = some x := by rfl) (hv : Vis X.env.scope x := by first | exact Or.inl rfl | exact Or.inr (Or.inl rfl) | exact Or.inr (Or.inr rfl)) (hd : (x == ("__debug__" : Str)) = false := by decide)
    (hcd : (x == ("__classdict__" : Str)) = false := by decide) : PE X (.Name x pos) (tVar i) := pe_var hN hv hd hcd
end
theorem iteF {A B : Prop} (h : B) : if false = true then A else B := by
  rw [if_neg Bool.false_ne_true]
  exact h
theorem iteNS {c A B : Prop} [Decidable c] (hc : c) (h : B) : if (!decide c) = true then A else B := by
  rw [decide_eq_true hc]
  exact iteF h
def Same (H H' : Hp) : Prop := ∀ b o, H b = some o → H' b = some o
theorem Same.refl (H : Hp) : Same H H := fun _ _ h => h
theorem Same.trans {H H1 H2 : Hp} (a : Same H H1) (b : Same H1 H2) : Same H H2 := fun c o h => b c o (a c o h)
theorem Same.free {H H' : Hp} (e : Same H H') {l : Addr} (h : H' l = Option.none) : H l = Option.none := by
  cases q : H l with
  | none => rfl
  | some o =>
    rw [e l o q] at h
    cases h
theorem Same.seq {K : PySem.W.Frag} {H H' : Hp} {a : Addr} {xs : List V} (e : Same H H') (h : SqL K H a xs) : SqL K H' a xs := by
  rcases h with (h | ⟨o, h⟩) | h
  · exact .inl (.inl (e _ _ h))
  · exact .inl (.inr ⟨o, e _ _ h⟩)
  · exact .inr h
end L2
set_option Elab.async false
set_option linter.all false
set_option maxRecDepth 100000
set_option maxHeartbeats 4000000
namespace L2
open PySem PySem.Spec PyProof.Rows
theorem loop_comp {prog : Program} {w : World} {A : Around} {R : Result → Shared → Prop} {s : Shared} {elt target iter : Expr} {ifs : List Expr} {scope : Scope} {pos : Pos} {it acc : Value} {env : Env} (I : Nat → Shared → Prop)
    (turn : ∀ n s, I n s → wpAny (model prog w) A (pyNext it) (fun r s₁ => match r with
      | none => R (.ok .next) s₁
      | some v => wpAny (model prog w) A (letOwnedTupleGo target it v) (fun _ s₁' => wpAny (model prog w) A (assign target env v) (fun _ s₂ =>
          wpAny (model prog w) A (forIn ifs true fun c r => if r = true then do let ok ← isTrue c env (eval c env); pure (ForInStep.yield ok) else pure (ForInStep.yield r)) (fun ok s₃ =>
            if ok = true then wpAny (model prog w) A (eval elt env) (fun x s₄ =>
              wpAny (model prog w) A (call (.builtin "list.append") [acc, x]) (fun _ s₅ => ∃ m, m < n ∧ I m s₅) (fun _ _ => False) s₄) (fun _ _ => False) s₃
            else ∃ m, m < n ∧ I m s₃) (fun _ _ => False) s₂) (fun _ _ => False) s₁') (fun _ _ => False) s₁) (fun _ _ => False) s)
    (n : Nat) (h : I n s) :
    codeAny (model prog w) A (.compLoop (.ListComp elt [⟨target, iter, ifs, 0⟩] scope pos) 0 it acc env) R s := by
  refine codeAny_loop rfl I (fun n s hI => ?_) n h
  show wpAny _ A ((compTurn (.ListComp elt [⟨target, iter, ifs, 0⟩] scope pos) 0 it acc env).onRaise (fun x => do noteFrame x env; theTreesLotGoes x)) _ _ s
  refine wpAny_noted ?_
  rw [compTurn_list]
  refine wpAny_bind (wpAny_standAt (wpAny_bind (wpAny_mono (turn n s hI) (fun r s₁ h₁ => ?_) fun _ _ h' => h'.elim)))
  cases r with
  | none => exact wpAny_pure h₁
  | some v =>
    refine wpAny_bind (wpAny_mono h₁ (fun _ s₁' h₁' => ?_) fun _ _ h' => h'.elim)
    refine wpAny_bind (wpAny_mono h₁' (fun _ s₂ h₂ => wpAny_bind (wpAny_mono h₂ (fun ok s₃ h₃ => ?_) fun _ _ h' => h'.elim)) fun _ _ h' => h'.elim)
    cases ok with
    | false => exact wpAny_pure ⟨rfl, h₃⟩
    | true =>
      exact wpAny_bind (wpAny_bind (wpAny_mono h₃ (fun x s₄ h₄ => wpAny_bind (wpAny_mono h₄ (fun _ s₅ h₅ => wpAny_pure (wpAny_pure ⟨rfl, h₅⟩)) fun _ _ h' => h'.elim)) fun _ _ h' => h'.elim))
def clOf (names : List (Str × NameKind)) (env : Env) (cs : List (Str × Addr)) : List (Str × Addr) :=
  names.foldl (fun cs p => if p.2 = .free then (match env.cells.lookup p.1 with | some c => (p.1, c) :: cs | none => cs) else cs) cs
theorem closure_loop {env : Env} : ∀ (names : List (Str × NameKind)) (cs : List (Str × Addr)), (∀ y ∈ names, y.2 = .free → ∃ c, env.cells.lookup y.1 = some c) →
    (forIn names cs fun x r => (if (x.2 == NameKind.free) = true then do let a ← cellOf env x.1; pure (ForInStep.yield ((x.1, a) :: r)) else pure (ForInStep.yield r) : Sem _)) = pure (clOf names env cs)
  | [], cs, _ => by simp [clOf]
  | (n, k) :: r, cs, h => by
    have ih := fun cs => closure_loop r cs fun y hy => h y (List.mem_cons_of_mem _ hy)
    simp only [List.forIn_cons]
    by_cases hk : k = .free
    · subst hk
      obtain ⟨c, e⟩ := h (n, .free) List.mem_cons_self rfl
      have e' : env.cells.lookup n = some c := e
      have ec : cellOf env n = pure c := by unfold cellOf; rw [e']
      simp only [beq_self_eq_true, if_true, ec, pure_bind]
      rw [ih]
      simp [clOf, e']
    · have hb : (k == NameKind.free) = false := by simpa using hk
      simp only [hb, Bool.false_eq_true, if_false, pure_bind]
      rw [ih]
      simp [clOf, hk]
theorem closureFor_eq {scope : Scope} {env : Env} (h : ∀ y ∈ scope.names, y.2 = .free → ∃ c, env.cells.lookup y.1 = some c) : closureFor scope env = pure (clOf scope.names env []) := by
  unfold closureFor
  have := closure_loop scope.names [] h
  simp only [bind_pure]
  exact this
theorem clOf_mem {env : Env} : ∀ (names : List (Str × NameKind)) (cs : List (Str × Addr)) (x : Str) (c : Addr), (x, c) ∈ clOf names env cs → (x, c) ∈ cs ∨ env.cells.lookup x = some c
  | [], cs, x, c, h => .inl h
  | (n, k) :: r, cs, x, c, h => by
    have h' : (x, c) ∈ clOf r env (if k = .free then (match env.cells.lookup n with | some c => (n, c) :: cs | none => cs) else cs) := h
    rcases clOf_mem r _ x c h' with q | q
    · split at q
      · cases e : env.cells.lookup n with
        | none => rw [e] at q; exact .inl q
        | some d =>
          rw [e] at q
          rcases List.mem_cons.mp q with z | z
          · cases z; exact .inr e
          · exact .inl z
      · exact .inl q
    · exact .inr q
theorem clOf_keep {env : Env} : ∀ (names : List (Str × NameKind)) (cs : List (Str × Addr)) (x : Str), (∃ c, (x, c) ∈ cs) → ∃ c, (x, c) ∈ clOf names env cs
  | [], cs, x, h => h
  | (n, k) :: r, cs, x, ⟨c, h⟩ => by
    refine clOf_keep r _ x ?_
    dsimp only
    split
    · split
      · exact ⟨c, List.mem_cons_of_mem _ h⟩
      · exact ⟨c, h⟩
    · exact ⟨c, h⟩
theorem clOf_has {env : Env} : ∀ (names : List (Str × NameKind)) (cs : List (Str × Addr)) (x : Str), (x, NameKind.free) ∈ names → (∃ c, env.cells.lookup x = some c) → ∃ c, (x, c) ∈ clOf names env cs
  | [], _, _, h, _ => by simp at h
  | (n, k) :: r, cs, x, h, ⟨c, e⟩ => by
    rcases List.mem_cons.mp h with z | z
    · have e1 : x = n := congrArg Prod.fst z
      have e2 : NameKind.free = k := congrArg Prod.snd z
      subst e1 e2
      refine clOf_keep r _ x ⟨c, ?_⟩
      dsimp only
      rw [if_pos rfl, e]
      exact List.mem_cons_self
    · exact clOf_has r _ x z ⟨c, e⟩
theorem lookup_of_mem {β : Type} : ∀ (l : List (Str × β)) (x : Str) (c : β), (x, c) ∈ l → ∃ d, l.lookup x = some d
  | (n, d) :: r, x, c, h => by
    cases hx : x == n with
    | true => exact ⟨d, by simp [List.lookup_cons, hx]⟩
    | false =>
      simp only [List.lookup_cons, hx]
      rcases List.mem_cons.mp h with z | z
      · cases z; simp at hx
      · exact lookup_of_mem r x c z
theorem clOf_lookup {names : List (Str × NameKind)} {env : Env} {x : Str} {c : Addr} (h : (clOf names env []).lookup x = some c) : env.cells.lookup x = some c := by
  rcases clOf_mem names [] x c (PySem.mem_of_lookup h) with q | q
  · simp at q
  · exact q
theorem clOf_some {names : List (Str × NameKind)} {env : Env} {x : Str} {c : Addr} (h : (x, NameKind.free) ∈ names) (e : env.cells.lookup x = some c) : (clOf names env []).lookup x = some c := by
  obtain ⟨d, hd⟩ := clOf_has names [] x h ⟨c, e⟩
  obtain ⟨d', hd'⟩ := lookup_of_mem _ _ _ hd
  have := clOf_lookup hd'
  rw [e] at this
  cases this
  exact hd'
theorem lookup_relabel_free {env : Env} : ∀ {names : List (Str × NameKind)} {x : Str}, names.lookup x = some .free →
    (names.map fun (n, k) => if (k == NameKind.free && env.scope.kind == .function && env.kindOf n == some .cell) then (n, NameKind.cell) else (n, k)).lookup x = some .cell ∨
    (names.map fun (n, k) => if (k == NameKind.free && env.scope.kind == .function && env.kindOf n == some .cell) then (n, NameKind.cell) else (n, k)).lookup x = some .free
  | [], _, h => by simp at h
  | (n, k) :: r, x, h => by
    have ih := @lookup_relabel_free env r x
    show List.lookup x ((if (k == NameKind.free && env.scope.kind == .function && env.kindOf n == some .cell) = true then (n, NameKind.cell) else (n, k)) :: _) = _ ∨ List.lookup x ((if (k == NameKind.free && env.scope.kind == .function && env.kindOf n == some .cell) = true then (n, NameKind.cell) else (n, k)) :: _) = _
    by_cases hc : (k == NameKind.free && env.scope.kind == .function && env.kindOf n == some .cell) = true
    · rw [if_pos hc]
      cases hx : x == n with
      | true => left; simp [List.lookup_cons, hx]
      | false =>
        simp only [List.lookup_cons, hx] at h ⊢
        exact ih h
    · rw [if_neg hc]
      cases hx : x == n with
      | true =>
        simp only [List.lookup_cons, hx] at h
        cases h
        right; simp [List.lookup_cons, hx]
      | false =>
        simp only [List.lookup_cons, hx] at h ⊢
        exact ih h
structure CompScope (own : List Str) (caps : List Nat) (N : List Str) (sc scope : Scope) : Prop where
  kind : scope.kind = .function
  nocell : ∀ y ∈ scope.names, y.2 ≠ .cell
  loc : ∀ y ∈ scope.names, y.2 = .local → scope.names.lookup y.1 = some .local
  fr : ∀ y ∈ scope.names, y.2 = .free → sc.names.lookup y.1 = some .cell ∨ sc.names.lookup y.1 = some .free
  cap : ∀ i ∈ caps, i < N.length ∧ scope.names.lookup ((N[i]?).getD Str.empty) = some .free
def cxComp (X : Cx) (own : List Str) (caps : List Nat) (scope : Scope) (s : Shared) (H : Hp) (fp : List Addr) (C : Addr) : Cx :=
  { X with N := own ++ caps.map (fun i => (X.N[i]?).getD Str.empty), s₀ := s, H₀ := H, env := compEnvC scope (clOf scope.names X.env []) C X.env, outer := X.stack, ex := fp, fn := fun _ => false, pn := [], xe := fun _ _ => False }
def tau0 (n : Nat) (caps : List Nat) (σ : St) : St := List.replicate n none ++ caps.map fun i => (σ[i]?).join
section
variable {X : Cx} {pins : List (Addr × Obj)} {σ : St} {H : Hp} {s : Shared}
theorem free_of_kind {scope : Scope} {env : Env} (nc : ∀ y ∈ scope.names, y.2 ≠ .cell) {x : Str} {k : NameKind} (hk : k = .cell ∨ k = .free) (h : (relabel scope env).names.lookup x = some k) : (x, NameKind.free) ∈ scope.names := by
  have hm := PySem.mem_of_lookup h
  obtain ⟨⟨n, k0⟩, hy, e⟩ := List.mem_map.mp hm
  dsimp only at e
  split at e
  · rename_i hc
    simp only [Bool.and_eq_true, beq_iff_eq] at hc
    have e1 : n = x := congrArg Prod.fst e
    subst e1
    rw [hc.1.1] at hy
    exact hy
  · cases e
    rcases hk with z | z
    · subst z; exact absurd rfl (nc _ hy)
    · subst z; exact hy
theorem inv_comp {own : List Str} {caps : List Nat} {scope : Scope} {fp : List Addr} {D C : Addr} {o : Obj} {h1 : Heap} {tk : Nat} (I : Inv X pins σ H s) (S : CompScope own caps X.N X.env.scope scope)
    (f : ∀ b ∈ fp, FpOk X pins H b) (fl : ∀ b ∈ fp, b < s.heap.objs.size) (hD : s.heap.objs.size ≤ D) (hC : s.heap.objs.size ≤ C) (hDC : D ≠ C) (keep : ∀ b o, s.heap.get? b = some o → h1.get? b = some o)
    (hns : h1.Ns C fun _ => none) (hacc : h1.get? D = some o) (ho : ∀ v, o.data ≠ .cell v) :
    Inv (cxComp X own caps scope s H fp C) [(D, o)] (tau0 own.length caps σ) H { s with heap := h1, toks := tk } := by
  have sub : ∀ b ∈ frs X.stack, b < s.heap.objs.size := fun b hb => by
    rcases List.mem_cons.mp (I.stkSub b hb) with e | hb
    · rw [e]; exact I.lt
    · by_cases q : b < s.heap.objs.size
      · exact q
      · exact absurd hb (I.nofs (Nat.le_of_not_lt q))
  refine ⟨⟨I.ok.mod, S.kind, I.ok.glob, I.ok.blt, hC, fun x y c h1 h2 => I.ok.inj x y c (clOf_lookup h1) (clOf_lookup h2), fun x hx => ?_, fun x c z _ => absurd (show false = true from z) Bool.false_ne_true, I.ok.hd, I.ok.frames, .inl rfl,
      fun b hb => ⟨Nat.ne_of_lt (Nat.lt_of_lt_of_le (fl b hb) hC), fun x c e => (f b hb).2.2.2.2.1 x c (clOf_lookup e)⟩, I.bs, Nat.le_trans I.ok.bsz I.sz, fun b ob e hb => ?_, fun b hb hs => ?_, I.stack, I.stkFree⟩,
    rfl, I.bare, Un.kept keep, ⟨_, hns, fun i x v e1 e2 e3 => ?_⟩, fun x c e => ?_, I.hok.fresh hC, fun x c e => I.freeC x c (clOf_lookup e), fun p hp => ?_, I.hok.kept keep, ?_⟩
  · have hm : (x, NameKind.free) ∈ scope.names := by
      rcases hx with hx | hx
      · exact free_of_kind S.nocell (.inl rfl) hx
      · exact free_of_kind S.nocell (.inr rfl) hx
    obtain ⟨c, hc⟩ := I.ok.has x (S.fr _ hm rfl)
    exact ⟨c, clOf_some hm hc⟩
  · rcases (f b hb).2.2.2.1 with z | z
    · exact I.ok.noex b ob e z
    · exact absurd (Nat.lt_of_lt_of_le (Heap.lt_size e) (Nat.le_trans I.ok.bsz z)) (Nat.lt_irrefl _)
  · rcases List.mem_cons.mp (I.stkSub b hs) with e | e
    · exact (f b hb).2.1 e
    · exact (f b hb).2.2.1 e
  · have e2' : (List.replicate own.length (none : Option V) ++ caps.map fun i => (σ[i]?).join)[i]? = some (some v) := e2
    have e1' : (own ++ caps.map (fun i => (X.N[i]?).getD Str.empty))[i]? = some x := e1
    have hi : own.length ≤ i := by
      by_cases q : i < own.length
      · rw [List.getElem?_append_left (by simpa using q), List.getElem?_replicate, if_pos q] at e2'
        cases e2'
      · exact Nat.le_of_not_lt q
    rw [List.getElem?_append_right (by simpa using hi), List.length_replicate, List.getElem?_map] at e2'
    rw [List.getElem?_append_right hi, List.getElem?_map] at e1'
    cases ek : caps[i - own.length]? with
    | none => rw [ek] at e1'; cases e1'
    | some k =>
      rw [ek] at e1' e2'
      have ex : (X.N[k]?).getD Str.empty = x := Option.some.inj e1'
      have ev : (σ[k]?).join = some v := Option.some.inj e2'
      have ev' : σ[k]? = some (some v) := by
        cases q : σ[k]? with
        | none => rw [q] at ev; cases ev
        | some y => rw [q] at ev; exact congrArg some ev
      obtain ⟨hl, hf⟩ := S.cap k (List.mem_of_getElem? ek)
      have eN : X.N[k]? = some x := by
        rw [List.getElem?_eq_getElem hl] at ex ⊢
        exact congrArg some ex
      rw [ex] at hf
      have hm := PySem.mem_of_lookup hf
      have hfr := S.fr _ hm rfl
      obtain ⟨m, _, hl'⟩ := I.loc
      obtain ⟨u, ru, lk⟩ := hl' k x v eN ev' (.inr hfr)
      refine ⟨u, ru, .inr ⟨lookup_relabel_free hf, ?_⟩⟩
      rcases lk with ⟨kl, _⟩ | ⟨_, c, hc, ob, hob, hd⟩
      · have kl' : X.env.scope.names.lookup x = some .local := kl
        rcases hfr with z | z
        · have z' : X.env.scope.names.lookup x = some .cell := z
          rw [z'] at kl'; cases kl'
        · have z' : X.env.scope.names.lookup x = some .free := z
          rw [z'] at kl'; cases kl'
      · exact ⟨c, clOf_some hm hc, ob, keep c ob hob, hd⟩
  · obtain ⟨v, ob, hob, hd⟩ := I.cell x c (clOf_lookup e)
    exact ⟨v, ob, keep c ob hob, hd⟩
  · have e : p = (D, o) := by simpa using (show p ∈ [] ++ [(D, o)] from hp)
    subst e
    refine ⟨hacc, I.hok.fresh hD, hDC, fun z => ?_, ho⟩
    exact absurd (Nat.lt_of_lt_of_le (sub D z) hD) (Nat.lt_irrefl _)
  · show (tau0 own.length caps σ).length = (own ++ caps.map (fun i => (X.N[i]?).getD Str.empty)).length
    simp [tau0]
def PTs (X : Cx) (ifs : List Expr) (t : TT) : Prop :=
  ∀ (pins : List (Addr × Obj)) (s : Shared) (σ : St) (H : Hp) (Q : Bool → Hp → Prop), Inv X pins σ H s → t σ H Q →
    wpAny (model X.prog X.w) X.A (forIn ifs true fun c r => if r = true then do let ok ← isTrue c X.env (eval c X.env); pure (ForInStep.yield ok) else pure (ForInStep.yield r)) (TP X pins σ Q) X.xe s
def tYes : TT := fun _ H Q => Q true H
theorem pts_nil : PTs X [] tYes := fun _ s σ H Q I h => wpAny_tests_nil ⟨H, I, h⟩
theorem pts_one {c : Expr} {t : TT} (h : PT X c t) : PTs X [c] t := fun pins s σ H Q I q => wpAny_tests_one (h pins s σ H Q I q)
def tComp (n : Nat) (caps : List Nat) (wi : TI) (g : TG) (tc : TT) (te : TE) : TE := fun σ H Q => wi σ H fun J H1 => ∃ W : Nat → Nat → St → List V → Hp → Prop, (∃ m, W 0 m (tau0 n caps σ) [] H1) ∧ ∀ i m τ acc H, W i m τ acc H →
  (J.stop i H ∧ acc.length ≤ sizeLine ∧ ∀ p, H p = none → Q (.ref p) (upd H p (.lst acc))) ∨
  (J.go i H ∧ acc.length < sizeLine ∧ ∀ x H', J.yld i H x H' → g x τ H' fun τ2 H2 => tc τ2 H2 fun b H3 => if b = true then te τ2 H3 fun y H4 => ∃ m', m' < m ∧ W (i + 1) m' τ2 (acc ++ [y]) H4 else ∃ m', m' < m ∧ W (i + 1) m' τ2 acc H3)
theorem HOk.track {P : Program} {w : World} {H : Hp} {h : Heap} {a : Addr} {o : HO} (x : HOk P w H h) (hn : H a = none) (new : ObjOk P w (upd H a o) h a o) : HOk P w (upd H a o) h := fun b u e => by
  by_cases hb : b = a
  · subst hb; rw [upd_same] at e; cases e; exact new
  · rw [upd_ne hb] at e
    exact (x b u e).stay (fun c v _ q => q) (fun c q => by rw [upd_ne (ne_of_none q hn)]; exact q) fun c xs q => by rw [upd_ne (ne_of_none q hn)]; exact q
theorem pe_comp {own : List Str} {caps : List Nat} {elt tg iter : Expr} {ifs : List Expr} {scope : Scope} {pos : Pos} {wi : TI} {g : TG} {tc : TT} {te : TE} (hc : X.calm = true) (S : CompScope own caps X.N X.env.scope scope) (hi : PI X tg iter wi)
    (hg : ∀ s H fp C, PG (cxComp X own caps scope s H fp C) tg g) (ht : ∀ s H fp C, PTs (cxComp X own caps scope s H fp C) ifs tc) (he : ∀ s H fp C, PE (cxComp X own caps scope s H fp C) elt te)
    (hs : ∀ x, foldedSetIterable iter X.env x = pure x := by intro _; rfl) : PE X (.ListComp elt [⟨tg, iter, ifs, 0⟩] scope pos) (tComp own.length caps wi g tc te) := by
  intro pins s σ H Q I h
  rw [eval_ListComp]
  refine wpAny_comprehension_free (use := none) (cl := clOf scope.names X.env []) rfl hs (closureFor_eq fun y hy e => I.ok.has y.1 (S.fr y hy e)) S.kind S.loc
    (wpAny_mono (hi pins s σ H _ I h) (fun v s1 h1 => thn h1 fun itv s2 h2 => ?_) fun _ _ e => e)
  obtain ⟨it, fp, tn, J, H2, e, I2, T, st2, f2, W, ⟨m0, w0⟩, turn⟩ := h2
  subst e
  refine wpAny_newObj_type (wpAny_newFunctionEnv S.nocell (by intro y hy; simp at hy) (fun h₁ hns₁ hsb₁ => ?_) S.kind)
  dsimp only at hns₁ hsb₁ ⊢
  generalize hH2 : s2.heap.push { cls := .type "list", dict := none, data := .seq ([] : List Value).toArray } = G at hns₁ hsb₁ ⊢
  have hG : G.objs.size = s2.heap.objs.size + 1 := by rw [← hH2, Heap.size_push]
  have hDC : s2.heap.objs.size ≠ G.objs.size := by rw [hG]; exact Nat.ne_of_lt (Nat.lt_succ_self _)
  have hCle : s2.heap.objs.size ≤ G.objs.size := by rw [hG]; exact Nat.le_succ _
  have below : ∀ b, b < s2.heap.objs.size → b ≠ G.objs.size := fun b hb => by rw [hG]; exact Nat.ne_of_lt (Nat.lt_succ_of_lt hb)
  have old : ∀ b o, s2.heap.get? b = some o → h₁.get? b = some o := fun b o e => hsb₁.extBut b o (below b (Heap.lt_size e)) (Heap.get?_push_of_some _ (hH2 ▸ Heap.get?_push_of_some _ e))
  have hacc : h₁.get? s2.heap.objs.size = some { cls := .type "list", dict := none, data := .seq ([] : List Value).toArray } := hsb₁.extBut _ _ hDC (Heap.get?_push_of_some _ (hH2 ▸ Heap.get?_push_size _ rfl))
  have fl : ∀ b ∈ fp, b < s2.heap.objs.size := fun b hb => let ⟨o, e, _⟩ := T.obj _ _ st2 b hb; Heap.lt_size e
  have hns₁' : h₁.Ns G.objs.size fun _ => none := hns₁
  have I4 := inv_comp (tk := s2.toks + ([] : List (Str × Value)).length) I2 S f2 fl (Nat.le_refl _) hCle hDC old hns₁' hacc (fun v z => nomatch z)
  have st4 : tn 0 h₁ := T.keep _ _ _ st2 fun b _ o e => old b o e
  generalize hs4 : ({ s2 with heap := h₁, toks := s2.toks + ([] : List (Str × Value)).length } : Shared) = s4 at I4 ⊢
  have e4 : s4.heap = h₁ := by rw [← hs4]
  rw [← e4] at st4
  -- the loop
  have loop : codeAny (model X.prog X.w) X.A (.compLoop (.ListComp elt [⟨tg, iter, ifs, 0⟩] scope pos) 0 (.ref it) (.ref s2.heap.objs.size) (compEnvC scope (clOf scope.names X.env []) G.objs.size X.env))
      (compPost (model X.prog X.w) X.A X.xe none (EP X pins σ Q) (.ref s2.heap.objs.size) G.objs.size) s4 := by
    let Y := cxComp X own caps scope s2 H2 fp G.objs.size
    have stat : ∀ {H' : Hp} {its : List Value} {n : Nat}, (∀ b ∈ fp, H' b = none) → ∀ b ∈ fp, FpOk Y [(s2.heap.objs.size, ({ cls := .type "list", data := .seq its.toArray n } : Obj))] H' b := fun {H' its n} hn b hb => by
      refine ⟨hn b hb, below b (fl b hb), fun z => ?_, .inl hb, fun x c e => (f2 b hb).2.2.2.2.1 x c (clOf_lookup e), fun p hp => ?_⟩
      · rcases List.mem_cons.mp (I2.stkSub b z) with e | e
        · exact (f2 b hb).2.1 e
        · exact (f2 b hb).2.2.1 e
      · have e : p = (s2.heap.objs.size, ({ cls := .type "list", data := .seq its.toArray n } : Obj)) := by simpa using (show p ∈ [] ++ [_] from hp)
        subst e
        exact Nat.ne_of_gt (fl b hb)
    refine loop_comp (fun n s' => ∃ i τ acc its k H', Inv Y [(s2.heap.objs.size, ({ cls := .type "list", data := .seq its.toArray k } : Obj))] τ H' s' ∧ tn i s'.heap ∧ (∀ b ∈ fp, H' b = none) ∧ Vals acc its ∧ W i n τ acc H') ?_ m0
      ⟨0, _, [], [], 0, H2, I4, st4, fun b hb => (f2 b hb).1, .nil, w0⟩
    rintro n s5 ⟨i, τ, acc, its, k, H5, I5, st5, fr5, rv5, w5⟩
    rcases turn i n τ acc H5 w5 with ⟨stop, hz, q⟩ | ⟨go, hz, step⟩
    · refine thn (T.done Y rfl rfl rfl hc i _ s5 τ H5 (fun _ _ => False) I5 (stat fr5) st5 stop) fun r s6 ⟨hr, I6⟩ => ?_
      subst hr
      obtain ⟨eD, nD, _, _, _⟩ := I6.pin _ (List.mem_append_right _ (List.mem_singleton.mpr rfl))
      obtain ⟨m6, hm6, _⟩ := I6.loc
      refine ⟨m6, hm6, fun h' hsb => ?_⟩
      have hC6 : H5 G.objs.size = none := I6.free
      have eD' : h'.get? s2.heap.objs.size = some { cls := .type "list", data := .seq its.toArray k } := hsb.extBut _ _ hDC eD
      have hok6 : HOk X.prog X.w H5 h' := fun b u e => (I6.hok b u e).stay (fun c v hcv qv => hsb.extBut c v (by
          rcases hcv with z | z
          · subst z; exact ne_of_none e hC6
          · exact ne_of_none z hC6) qv) (fun _ q => q) fun _ _ q => q
      refine ⟨.ref s2.heap.objs.size, _, ?_, rfl, q _ nD⟩
      have ub := I6.base
      refine I2.call' (ch := fp) (s' := { s6 with heap := h' }) I6.os ⟨fun b o e n' hb hx => hsb.extBut b o (below b (Heap.lt_size e)) (ub.keep b o e n' hb hx), fun b o e n' hb hx => ?_, fun b o e n' hx => ?_, fun b o e hx => ?_, fun b xs e => ?_, fun b o u e => ?_, fun b ps e => ?_⟩
        (hok6.track nD ⟨hz, its, k, rv5, eD'⟩) I6.bare fun b hb => ⟨(f2 b hb).2.2.2.1, (f2 b hb).2.1, (f2 b hb).2.2.2.2.1, (f2 b hb).2.2.2.2.2⟩
      · obtain ⟨sl, e'⟩ := ub.slot b o e n' hb hx
        exact ⟨sl, hsb.extBut b _ (below b (Heap.lt_size e)) e'⟩
      · rw [upd_ne (Nat.ne_of_lt (Heap.lt_size e))]
        exact ub.free b o e n' hx
      · obtain ⟨o', e'⟩ := ub.there b o e hx
        exact ⟨o', hsb.extBut b _ (below b (Heap.lt_size e)) e'⟩
      · have z := ub.tups b xs e
        rw [upd_ne (ne_of_none z nD)]; exact z
      · have z := ub.frzs b o u e
        rw [upd_ne (ne_of_none z nD)]; exact z
      · obtain ⟨more, z⟩ := ub.tbls b ps e
        exact ⟨more, by rw [upd_ne (ne_of_none z nD)]; exact z⟩
    · refine thn (T.item Y rfl rfl rfl hc i _ s5 τ H5 (fun _ _ => False) I5 (stat fr5) st5 go) fun r s6 ⟨u, hr, h6⟩ => ?_
      subst hr
      refine thn h6 fun _ s7 ⟨x, H7, I7, r7, y7, st7, fr7⟩ => ?_
      have I7' := I7.pinned (stat fr7) (T.obj _ _ st7)
      refine thn (hg s2 H2 fp G.objs.size _ s7 τ H7 x u _ I7' r7 (step x H7 y7)) fun _ s8 ⟨τ8, H8, I8, q8⟩ => ?_
      refine thn (ht s2 H2 fp G.objs.size _ s8 τ8 H8 _ I8 q8) fun ok s9 ⟨H9, I9, q9⟩ => ?_
      -- the iterator's state behind the turn
      have back : ∀ {s' : Shared} {τ' : St} {H' : Hp}, Inv Y ([(s2.heap.objs.size, ({ cls := .type "list", data := .seq its.toArray k } : Obj))] ++ pinsAt fp s7.heap) τ' H' s' → (tn (i + 1) s'.heap ∧ ∀ b ∈ fp, H' b = none) := fun {s' τ' H'} Ib =>
        ⟨T.keep _ _ _ st7 fun b hb o e => (Ib.pin (b, o) (List.mem_append_right _ (List.mem_append_right _ (mem_pinsAt hb e)))).1, fun b hb => by
          obtain ⟨o, e, d⟩ := T.obj _ _ st7 b hb
          exact (Ib.pin (b, o) (List.mem_append_right _ (List.mem_append_right _ (mem_pinsAt hb e)))).2.1⟩
      cases ok with
      | false =>
        obtain ⟨m', hm', w'⟩ := q9
        obtain ⟨sb, fb⟩ := back I9
        exact ⟨m', hm', i + 1, τ8, acc, its, k, H9, I9.unpinned, sb, fb, rv5, w'⟩
      | true =>
        refine thn (he s2 H2 fp G.objs.size _ s9 τ8 H9 _ I9 q9) fun y s10 ⟨yv, H10, I10, r10, q10⟩ => ?_
        obtain ⟨m', hm', w'⟩ := q10
        obtain ⟨sb, fb⟩ := back I10
        obtain ⟨eD, nD, neD, nfD, _⟩ := I10.pin (s2.heap.objs.size, _) (List.mem_append_right _ (List.mem_append_left _ (List.mem_singleton.mpr rfl)))
        have hl : acc.length = its.length := rv5.length
        refine call_meets F.slot_list_append ⟨_, eD, rfl⟩ F.entry_list_append (F.args_list_append_2 _ _) (PySem.list_append s2.heap.objs.size its.toArray k y (by rw [List.size_toArray]; omega)) ⟨eD, ?_⟩
        have q := PySem.IsL.update eD (fun a : Array Value => a.push y)
        have Iu : Inv Y [] τ8 H10 s10 := I10.pins_of fun p hp => nomatch hp
        have It := Iu.turned (t' := s10.toks) (it := s2.heap.objs.size) (h' := s10.heap.update s2.heap.objs.size (Obj.mapSeq (fun a : Array Value => a.push y))) (fun b o hb e => (Heap.get?_update_other s10.heap _ (Ne.symm hb)).trans e) nD neD (.inr (Nat.le_refl _))
          (fun x c e z => by
            obtain ⟨v, ob, hob, _⟩ := I2.cell x c (clOf_lookup e)
            exact absurd (Heap.lt_size hob) (by rw [z]; exact Nat.lt_irrefl _)) (fun p hp => nomatch hp)
        have It' := It.pins_of (pins' := [(s2.heap.objs.size, ({ cls := .type "list", data := .seq (its ++ [y]).toArray (k + 1) } : Obj))]) fun p hp => by
          have e : p = _ := List.mem_singleton.mp hp
          subst e
          exact ⟨by simpa using q, nD, neD, nfD, fun v z => nomatch z⟩
        refine ⟨m', hm', i + 1, τ8, acc ++ [yv], its ++ [y], _, H10, It', T.keep _ _ _ sb fun b hb o e => (Heap.get?_update_other s10.heap _ (Nat.ne_of_gt (fl b hb))).trans e, fb, rv5.append (.cons r10 .nil), w'⟩
  exact codeAny_compStart_list loop (T.self _ 0 s4 _ _ st4 loop)
end
end L2
set_option Elab.async false
set_option linter.all false
set_option maxRecDepth 100000
set_option maxHeartbeats 4000000
namespace L2
open PySem PySem.Spec PyProof.Rows
open AutoSeq1 (wpAny_loadPart')
section
variable {prog : Program} {w : World} {A : Around} {E : Value → Shared → Prop} {s : Shared}
theorem nxT_in {it t : Addr} {i : Nat} {items} {x : Value} {Q : Value → Shared → Prop} (hit : s.heap.IsTupleIter it t i) (ht : s.heap.IsTuple t items) (hx : items[i]? = some x)
    (hQ : ∀ h', h'.IsTupleIter it t (i + 1) → Heap.SameBut it s.heap h' → Q x { s with heap := h' }) : wpAny (model prog w) A (Builtin.SmallTypes.nextOf (.ref it)) Q E s := by
  have ty := hit.typeIs (s := s)
  obtain ⟨o, ho, hc, hd⟩ := hit
  obtain ⟨ot, hot, _, n, hdt⟩ := ht
  have new := hQ _ ⟨_, Heap.get?_update_self (Obj.mapFields (·.set! 1 (rawInt (i + 1)))) ho (Obj.isFreed_of_fields (Obj.data_mapFields hd _)), (Obj.cls_mapFields ..).trans hc, by rw [Obj.data_mapFields hd]; simp [rawInt]⟩ (Heap.SameBut.update ..)
  unfold Builtin.SmallTypes.nextOf
  refine wpAny_bind (wpAny_callSpecial?_slot ty F.slot_tuple_iterator_next (wpAny_call_entry F.slot_tuple_iterator_next ty F.entry_tuple_iterator_next ?_ (F.args_tuple_iterator_next_1 _)))
  unfold Builtin.«tuple_iterator.__next__»
  wp_walk using wpAny_field ho hd (x := .ref t) rfl, wpAny_field ho hd (x := .int i 0) rfl, wpAny_seqItems hot hdt
  simp only [Int.toNat_natCast, hx]
  wp_walk using wpAny_setField ho hd (by simp)
  exact ⟨x, rfl, wpAny_pure new⟩
theorem nxT_out {it t : Addr} {i : Nat} {items} {Q : Value → Shared → Prop} (hh : A.handled = none) (hit : s.heap.IsTupleIter it t i) (ht : s.heap.IsTuple t items) (hx : items[i]? = none)
    (hE : ∀ h' e, Heap.ExtBut it s.heap h' → (∃ o, h'.get? e = some o ∧ o.cls = .type "StopIteration") → E (.ref e) { s with heap := h' }) : wpAny (model prog w) A (Builtin.SmallTypes.nextOf (.ref it)) Q E s := by
  have ty := hit.typeIs (s := s)
  obtain ⟨o, ho, hc, hd⟩ := hit
  obtain ⟨ot, hot, _, n, hdt⟩ := ht
  have hh1 : A.in1.handled = none := hh
  unfold Builtin.SmallTypes.nextOf
  refine wpAny_bind (wpAny_callSpecial?_slot ty F.slot_tuple_iterator_next (wpAny_call_entry F.slot_tuple_iterator_next ty F.entry_tuple_iterator_next ?_ (F.args_tuple_iterator_next_1 _)))
  unfold Builtin.«tuple_iterator.__next__»
  wp_walk using wpAny_field ho hd (x := .ref t) rfl, wpAny_field ho hd (x := .int i 0) rfl, wpAny_seqItems hot hdt
  simp only [Int.toNat_natCast, hx]
  wp_walk using wpAny_setField ho hd (by simp)
  simp only [raiseNew]
  refine wpAny_bind (wpAny_handled ?_)
  rw [hh1]
  exact wpAny_bind (wpAny_pure (wpAny_throw (hE _ _ (((Heap.SameBut.update ..).extBut.push _).push _) ⟨_, Heap.get?_push_size _ rfl, rfl⟩)))
end
theorem drawsT {prog : Program} {w : World} {A : Around} (hh : A.handled = none) (it t : Addr) (hne : t ≠ it) (items : Array Value) :
    Draws prog w A it [it, t] items.size (fun i v => items[i]? = some v) (fun i h => h.IsTupleIter it t i ∧ h.IsTuple t items) where
  live := fun _ _ st => let ⟨⟨o, ho, _⟩, _⟩ := st; ⟨o, ho⟩
  frame := fun _ _ _ st hk => let ⟨⟨o, ho, r⟩, o', ho', r'⟩ := st; ⟨⟨o, hk it (by simp) o ho, r⟩, o', hk t (by simp) o' ho', r'⟩
  item := fun i s Q E hi st hQ => nxT_in st.1 st.2 (Array.getElem?_eq_getElem hi) fun h' a b => hQ _ h' s.toks (Array.getElem?_eq_getElem hi) ⟨a, st.2.extBut b.extBut hne⟩ b
  done := fun s Q E st hE => nxT_out hh st.1 st.2 (Array.getElem?_eq_none (Nat.le_refl _)) hE
theorem drawnT {prog : Program} {w : World} {A : Around} (hh : A.handled = none) (it t : Addr) (items : Array Value) :
    Draws prog w A it [it, t] 0 (fun _ _ => False) (fun _ h => ∃ j, h.IsTupleIter it t j ∧ h.IsTuple t items ∧ items[j]? = none) where
  live := fun _ _ st => let ⟨_, ⟨o, ho, _⟩, _⟩ := st; ⟨o, ho⟩
  frame := fun _ _ _ st hk => let ⟨j, ⟨o, ho, r⟩, ⟨o', ho', r'⟩, z⟩ := st; ⟨j, ⟨o, hk it (by simp) o ho, r⟩, ⟨o', hk t (by simp) o' ho', r'⟩, z⟩
  item := fun i s Q E hi _ _ => absurd hi (Nat.not_lt_zero _)
  done := fun s Q E st hE => let ⟨_, a, b, c⟩ := st; nxT_out hh a b c hE
section
variable {prog : Program} {w : World} {A : Around} {E : Value → Shared → Prop} {s : Shared}
theorem enumT_new (l : Addr) (items : Array Value) (o : Obj) :
    Meets (Builtin.«enumerate.__new__» ⟨[.type "enumerate", .ref l], []⟩) (fun _ R s => (s.heap.get? l = some o ∧ s.heap.IsTuple l items) ∧
      R (.ok (.ret (.ref (s.heap.push { cls := .type "tuple_iterator", data := .fields #[.ref l, .int 0 0] }).objs.size)))
        { s with heap := (s.heap.push { cls := .type "tuple_iterator", data := .fields #[.ref l, .int 0 0] }).push { cls := .type "enumerate", data := .fields #[.none, .bool false, .ref s.heap.objs.size, rawInt 0, .none, .none] } }) :=
  .of_wp fun prog w A R s ⟨⟨hl, hL⟩, h⟩ => by
    obtain ⟨hp, g, d, tk, os⟩ := s
    have hsub := sub_enumerate
    wp_walk using wpAny_loadPart' hl
    refine wpAny_stack_any fun st => wpAny_pure ?_
    split
    · rename_i c _ _ _ _ _
      cases (c == Value.type "enumerate") <;> (wp_walk using wpAny_loadPart' hl, wpAny_pyIter_tuple hL) <;> exact ⟨_, rfl, h⟩
    · wp_walk using wpAny_loadPart' hl, wpAny_pyIter_tuple hL
      exact ⟨_, rfl, h⟩
theorem call_enumT {l : Addr} {items : Array Value} {Q : Value → Shared → Prop} (hL : s.heap.IsTuple l items)
    (h : ∀ h', IsEnum h' (s.heap.objs.size + 1) s.heap.objs.size 0 .none → h'.IsTupleIter s.heap.objs.size l 0 →
      (∀ b o, s.heap.get? b = some o → h'.get? b = some o) → Q (.ref (s.heap.objs.size + 1)) { s with heap := h' }) :
    wpAny (model prog w) A (call (.type "enumerate") [.ref l]) Q E s := by
  obtain ⟨o, hl, _⟩ := id hL
  refine callType_new F.called_enumerate (by decide) (F.typeCall_enumerate_1 _) (F.newCall_enumerate_1 _) (fun obj => F.args_object_init_2 obj _) F.entry_enumerate_new (enumT_new l items o) ⟨⟨hl, hL⟩, ?_⟩
  generalize hG : s.heap.push { cls := .type "tuple_iterator", data := .fields #[.ref l, .int 0 0] } = G
  have hz : G.objs.size = s.heap.objs.size + 1 := by rw [← hG, Heap.size_push]
  have hi : G.get? s.heap.objs.size = some { cls := .type "tuple_iterator", data := .fields #[.ref l, .int 0 0] } := by rw [← hG]; exact Heap.get?_push_size _ rfl
  have he := Heap.get?_push_size G (o := { cls := .type "enumerate", data := .fields #[.none, .bool false, .ref s.heap.objs.size, rawInt 0, .none, .none] }) rfl
  rw [hz] at he
  show _ ∧ _
  rw [hz]
  exact ⟨⟨_, he, rfl⟩, h _ he ⟨_, Heap.get?_push_of_some _ hi, rfl, rfl⟩ fun b o x => Heap.get?_push_of_some _ (by rw [← hG]; exact Heap.get?_push_of_some _ x)⟩
end
def IteT (K : PySem.W.Frag) (a : Addr) : It :=
  ⟨fun i H => ∃ xs x, SqT K H a xs ∧ xs[i]? = some x, fun i H y H' => ∃ p x, H p = none ∧ y = .ref p ∧ H' = upd H p (.tup [.int i, x]) ∧ ∀ xs, SqT K H a xs → xs[i]? = some x, fun i H => ∃ xs, SqT K H a xs ∧ xs.length ≤ i⟩
theorem turn_enumT {P : Program} {w : World} {K : PySem.W.Frag} {es : List Expr} {k : Nat} {pos : Pos} (a e it : Addr) (hne : e ≠ it) :
    Turn P w K (.Tuple es k pos) (IteT K a) [e, it] e (fun i h => (∃ old, IsEnum h e it i old) ∧ h.IsTupleIter it a i) where
  mem := by simp
  obj := fun i h st b hb => by
    obtain ⟨⟨old, he⟩, o, hi, c, d⟩ := st
    rcases List.mem_cons.mp hb with z | z
    · subst z; exact ⟨_, he, fun v q => nomatch q⟩
    · have z' : b = it := by simpa using z
      subst z'
      exact ⟨o, hi, fun v q => by rw [d] at q; cases q⟩
  keep := fun i h h' st q => by
    obtain ⟨⟨old, he⟩, o, hi, r⟩ := st
    exact ⟨⟨old, q e (by simp) _ he⟩, o, q it (by simp) o hi, r⟩
  item := by
    intro X hP hw hK hc i pins s σ H E I hf st hg
    subst hP hw hK
    obtain ⟨xs, x, hq, hx⟩ := hg
    obtain ⟨its, rv, p, hz⟩ := I.tuple hq
    obtain ⟨u, hu, ru⟩ := rv.get hx
    obtain ⟨⟨old, he⟩, hi⟩ := st
    obtain ⟨e0, e1, e2, e3, e4, e5⟩ := hf e (by simp)
    obtain ⟨f0, f1, f2, f3, f4, f5⟩ := hf it (by simp)
    have el : e < s.heap.objs.size := Heap.lt_size he
    have il : it < s.heap.objs.size := let ⟨_, z, _⟩ := hi; Heap.lt_size z
    have ht : s.heap.IsTuple a its.toArray := p
    have hal : a < s.heap.objs.size := let ⟨_, z, _⟩ := ht; Heap.lt_size z
    have hai : a ≠ it := fun z => by
      obtain ⟨o1, z1, c1, _⟩ := ht
      obtain ⟨o2, z2, c2, _⟩ := hi
      rw [z, z2] at z1; cases z1; rw [c2] at c1; exact absurd (Value.type.inj c1) (by decide)
    have hae : e ∉ [it, a] := fun z => by
      rcases List.mem_cons.mp z with z | z
      · exact hne z
      · have z' : e = a := by simpa using z
        obtain ⟨o1, z1, c1, _⟩ := ht
        rw [← z', he] at z1; cases z1; exact absurd (Value.type.inj c1) (by decide)
    refine wpAny_pyNext_enum_itemD (drawsT (A := X.A.in1) (I.ok.hd hc) it a hai its.toArray) he ⟨hi, ht⟩ (by simpa using (List.getElem?_eq_some_iff.mp hu).1) hne hae fun u1 h1 tk hu1 ho hst1 hT hsz hk => ?_
    have eu : u = u1 := by
      have q : its.toArray[i]? = some u := by simpa using hu
      have hu1' : its.toArray[i]? = some u1 := hu1
      rw [q] at hu1'; exact Option.some.inj hu1'
    subst eu
    have hi1 := hst1.1
    refine ⟨_, rfl, ?_⟩
    refine wpAny_letOwnedTupleGo_enum ho fun h2 he2 hs2 => ?_
    have hs2' : Heap.SameBut e h1 h2 := hs2
    have old2 : ∀ b o, b ≠ e → b ≠ it → s.heap.get? b = some o → h2.get? b = some o := fun b o hb hb' q => hs2'.extBut b o hb (hk b o hb hb' q)
    have hT2 : h2.get? s.heap.objs.size = some { cls := .type "tuple", data := .seq #[.int i tk, u] } := hs2'.extBut _ _ (Nat.ne_of_gt el) hT
    have nT : H s.heap.objs.size = none := I.hok.fresh (Nat.le_refl _)
    refine ⟨.ref s.heap.objs.size, upd H s.heap.objs.size (.tup [.int i, x]), ?_, rfl, ⟨_, x, nT, rfl, rfl, fun ys hy => by rw [I.tuple_inj hy hq]; exact hx⟩, ⟨⟨u, by simpa using he2⟩, ?_⟩, fun b hb => ?_⟩
    · have nch : ∀ b, b ∉ [e, it] → b ≠ e ∧ b ≠ it := fun b hb => ⟨fun z => hb (by simp [z]), fun z => hb (by simp [z])⟩
      refine Inv.step (s := s) (h' := h2) (g' := s.gens) (d' := s.drawn) (t' := tk + 1) (ch := [e, it]) I (fun b hb => ?_) (fun b o _ _ hb q _ => old2 b o (nch b hb).1 (nch b hb).2 q) (fun b o _ _ hb q _ => ⟨o.slots, old2 b o (nch b hb).1 (nch b hb).2 q⟩)
        (fun b o _ q n => by rw [upd_ne (Nat.ne_of_lt (Heap.lt_size q))]; exact n) (fun b o hb q => ⟨o, old2 b o (nch b hb).1 (nch b hb).2 q⟩)
        (fun b ys q => by rw [upd_ne (ne_of_none q nT)]; exact q) (fun b o v q => by rw [upd_ne (ne_of_none q nT)]; exact q) (fun b ps q => ⟨#[], by rw [upd_ne (ne_of_none q nT), q]; simp⟩)
        (fun m hm => by
          obtain ⟨o, es', ep, q, r⟩ := hm
          exact ⟨o, es', ep, old2 _ o (Ne.symm e1) (Ne.symm f1) q, r⟩) (fun b v q => ?_) I.bare
      · rcases List.mem_cons.mp hb with z | z
        · subst z; exact ⟨e3, e1, e4, e5⟩
        · have z' : b = it := by simpa using z
          subst z'; exact ⟨f3, f1, f4, f5⟩
      · by_cases hb : b = s.heap.objs.size
        · subst hb
          rw [upd_same] at q
          cases q
          exact ⟨⟨by show 2 ≤ sizeLine; rw [sizeLine_eq]; decide, fun ob e => by rw [hT2] at e; cases e; rfl⟩, [.int i tk, u], .cons ⟨_, rfl⟩ (.cons ru .nil), ⟨_, hT2, rfl, _, rfl⟩⟩
        · rw [upd_ne hb] at q
          refine (I.hok b v q).stay (fun c ob hc qc => old2 c ob ?_ ?_ qc) (fun c qc => by rw [upd_ne (ne_of_none qc nT)]; exact qc) fun c ys qc => by rw [upd_ne (ne_of_none qc nT)]; exact qc
          · rcases hc with z | z
            · subst z; exact ne_of_none q e0
            · exact ne_of_none z e0
          · rcases hc with z | z
            · subst z; exact ne_of_none q f0
            · exact ne_of_none z f0
    · obtain ⟨o, q, r⟩ := hi1
      exact ⟨o, hs2'.extBut it o (Ne.symm hne) q, r⟩
    · rcases List.mem_cons.mp hb with z | z
      · subst z; rw [upd_ne (Nat.ne_of_lt el)]; exact e0
      · have z' : b = it := by simpa using z
        subst z'; rw [upd_ne (Nat.ne_of_lt il)]; exact f0
  done := by
    intro X hP hw hK hc i pins s σ H E I hf st hg
    subst hP hw hK
    obtain ⟨xs, hq, hx⟩ := hg
    obtain ⟨its, rv, p, hz⟩ := I.tuple hq
    obtain ⟨⟨old, he⟩, hi⟩ := st
    obtain ⟨f0, f1, f2, f3, f4, f5⟩ := hf it (by simp)
    have hl := rv.length
    have ht : s.heap.IsTuple a its.toArray := p
    have hai : a ≠ it := fun z => by
      obtain ⟨o1, z1, c1, _⟩ := ht
      obtain ⟨o2, z2, c2, _⟩ := hi
      rw [z, z2] at z1; cases z1; rw [c2] at c1; exact absurd (Value.type.inj c1) (by decide)
    exact wpAny_pyNext_enum_endD (drawnT (A := X.A.in1) (I.ok.hd hc) it a its.toArray) he ⟨i, hi, ht, by simp; omega⟩ fun h' eb => ⟨rfl, I.turned (t' := s.toks) (fun b o hb e => eb b o hb e) f0 f1 f3 f4 f5⟩
  self := fun _ _ _ _ _ st h => let ⟨⟨_, he⟩, _⟩ := st; wpAny_pyIter_enum he h
def iEnumT (K : PySem.W.Frag) (ta : TA) : TI := fun σ H R => ta σ H fun vs H1 => ∃ a, vs = [.ref a] ∧ (∃ xs, SqT K H1 a xs) ∧ R (IteT K a) H1
theorem pi_enumT {X : Cx} {a : Expr} {ta : TA} {p pos pos2 : Pos} {es : List Expr} {k : Nat} {K : PySem.W.Frag} (hK : X.K = K) (hg : Gl X "enumerate") (hm : X.mg "enumerate" = none) (ha : PA X [a] ta) (hs : starEach [a] X.env = [(false, eval a X.env)] := by rfl) :
    PI X (.Tuple es k pos2) (.Call (.Name "enumerate" p) [a] [] pos) (iEnumT K ta) := by
  subst hK
  intro pins s σ H R I h
  refine Call_ (ld_blt I hg hm boot_enumerate (PyProof.Rows.callWith_type1 (thn (ha pos pins s σ H _ I h) fun us s1 ⟨vs, H1, I1, r1, q1⟩ => ?_) hs rfl))
  obtain ⟨l, e, ⟨xs, hq⟩, q⟩ := q1
  subst e
  cases r1 with
  | cons r rr =>
    cases rr
    cases r
    obtain ⟨its, rv, p, hz⟩ := I1.tuple hq
    refine call_enumT (show s1.heap.IsTuple l its.toArray from p) fun h' he hi hk => ?_
    refine wpAny_pyIter_enum he ?_
    have I2 : Inv X pins σ H1 { s1 with heap := h' } := I1.kept (t' := s1.toks) hk
    refine ⟨s1.heap.objs.size + 1, [s1.heap.objs.size + 1, s1.heap.objs.size], _, _, H1, rfl, I2, turn_enumT l _ _ (Nat.succ_ne_self _), ⟨⟨_, he⟩, hi⟩, fun b hb => ?_, q⟩
    have hb' : s1.heap.objs.size ≤ b := by
      rcases List.mem_cons.mp hb with z | z
      · subst z; exact Nat.le_succ _
      · have z' : b = s1.heap.objs.size := by simpa using z
        subst z'; exact Nat.le_refl _
    exact I1.fpOk hb' (I1.hok.fresh hb')
end L2
set_option Elab.async false
set_option linter.all false
set_option maxRecDepth 100000
set_option maxHeartbeats 4000000
namespace L2
open PySem PySem.Spec PyProof.Rows
def tyS (H : Hp) : V → Option String
  | .non => some "NoneType"
  | .bl _ => some "bool"
  | .int _ => some "int"
  | .str _ => some "str"
  | .ref a => match H a with
    | some (.lst _) => some "list"
    | some (.frz _ (.lst _)) => some "list"
    | some (.tup _) => some "tuple"
    | some (.dK _) => some "dict"
    | _ => none
  | _ => none
theorem tyS_of {K : PySem.W.Frag} {H : Hp} {x : V} {t : String} (h : tyS H x = some t) : TyOf K H x (.type t) := by
  cases x with
  | non => cases h; exact .non
  | bl b => cases h; exact .bl b
  | int i => cases h; exact .int i
  | str x => cases h; exact .str x
  | ref a =>
    unfold tyS at h
    dsimp only at h
    split at h
    · rename_i e; cases h; exact .lst e
    · rename_i e; cases h; exact .frz e
    · rename_i e; cases h; exact .tup e
    · rename_i e; cases h; exact .dK e
    · cases h
  | _ => cases h
theorem tyS_six {H : Hp} {x : V} {t : String} (h : tyS H x = some t) : t = "NoneType" ∨ t = "bool" ∨ t = "int" ∨ t = "str" ∨ t = "list" ∨ t = "tuple" ∨ t = "dict" := by
  cases x with
  | ref a =>
    unfold tyS at h
    dsimp only at h
    split at h <;> cases h <;> simp
  | _ => cases h <;> simp
def isSub (t T : String) : Bool := t == T || (t == "bool" && T == "int")
theorem kit_of {K : PySem.W.Frag} {t T : String} (h : t = "NoneType" ∨ t = "bool" ∨ t = "int" ∨ t = "str" ∨ t = "list" ∨ t = "tuple" ∨ t = "dict") (hT : T = "int" ∨ T = "bool" ∨ T = "list" ∨ T = "tuple") : PySem.W.kitOne K (.type t) (.type T) = some (isSub t T) := by
  rcases h with rfl | rfl | rfl | rfl | rfl | rfl | rfl <;> rcases hT with rfl | rfl | rfl | rfl <;> first | rfl | decide +kernel
section
variable {X : Cx}
theorem call_isinst : CallR X (.builtin "isinstance") (fun xs H Q => ∃ x t T, xs = [x, .ty T] ∧ tyS H x = some t ∧ (T = "int" ∨ T = "bool" ∨ T = "list" ∨ T = "tuple") ∧ Q (.bl (isSub t T)) H) := by
  intro pins s σ H xs us Q I r h
  obtain ⟨x, t, T, rfl, ht, hT, q⟩ := h
  obtain ⟨u, w', rfl, r1, r2⟩ := vals2 r
  cases r2
  exact isinst_ok I r1 (tyS_of ht) (kit_of (tyS_six ht) hT) fun tk => ⟨.bl _, H, I.tok tk, rfl, q⟩
theorem op_fdivB : OpR X (binaryOp .FloorDiv) (rI (fun _ j => 0 < j ∧ j < 2 ^ 200) fun i j => .int (i / j)) := opI fun i j _ _ _ _ _ hc q => by
  have e : i.fdiv j = i / j := Int.fdiv_eq_ediv_of_nonneg _ (by omega)
  rw [← e] at q
  refine floordiv_int (by omega) q (.inl (PyProof.noPylong_of_log2 ?_))
  have h0 : j.natAbs ≠ 0 := by omega
  have h1 : j.natAbs < 2 ^ 200 := by omega
  have := (Nat.log2_lt h0).mpr h1
  omega
theorem op_neNil (hu : X.A.units + 64 < cLine) : OpR X (compareOp .NotEq) (fun x y H Q => ∃ a b xs, x = .ref a ∧ y = .ref b ∧ SqL X.K H a xs ∧ SqL X.K H b [] ∧ Q (.bl (!xs.isEmpty)) H) := by
  intro pins s σ H x y v u Q I rx ry h
  obtain ⟨a, b, xs, rfl, rfl, ha, hb, q⟩ := h
  cases rx; cases ry
  obtain ⟨its, r, p, _⟩ := I.list ha
  obtain ⟨its2, r2, p2, _⟩ := I.list hb
  cases r2
  cases r with
  | nil => exact SeqAt.RcNeAt.lists (e := fun _ => true) p.isList p2.isList rfl (by omega) (fun j h1 => absurd h1 (Nat.not_lt_zero _)) _ _ _ _ ⟨.bl _, H, I, rfl, q⟩
  | cons r1 rr => exact SeqAt.RcNeAt.lists_lengths p.isList p2.isList (by simp) (by omega) _ _ _ _ ⟨.bl _, H, I, rfl, q⟩
theorem op_eqUnit (hu : X.A.units + 64 < cLine) : OpR X (compareOp .Eq) (fun x y H Q => ∃ a b xs, x = .ref a ∧ y = .ref b ∧ SqT X.K H a xs ∧ SqT X.K H b [] ∧ Q (.bl xs.isEmpty) H) := by
  intro pins s σ H x y v u Q I rx ry h
  obtain ⟨a, b, xs, rfl, rfl, ha, hb, q⟩ := h
  cases rx; cases ry
  obtain ⟨its, r, p, _⟩ := I.tuple ha
  obtain ⟨its2, r2, p2, _⟩ := I.tuple hb
  cases r2
  have q' : Q (.bl ((List.range (min its.toArray.size ([] : List Value).toArray.size)).all (fun _ => true) && its.toArray.size == ([] : List Value).toArray.size)) H := by
    cases r with
    | nil => simpa using q
    | cons r1 rr => simpa using q
  exact SeqAt.RcAt.tuples (e := fun _ => true) p p2 (by omega) (fun j h1 h2 => absurd h2 (Nat.not_lt_zero _)) _ _ _ _ ⟨.bl _, H, I, rfl, q'⟩
variable {K : PySem.W.Frag}
theorem pg_tup' {es : List Expr} {k : Nat} {t : TGs} {n : Nat} {pos : Pos} (hK : X.K = K) (hc : X.calm = true) (h : PGs X es t)
    (hn : (assignEach es X.env).length = n := by rfl) (hst : (assignEach es X.env).findIdx? (·.1) = none := by rfl) : PG X (.Tuple es k pos) (gTup K n t) := by subst hK; exact pg_tup hc h hn hst
theorem pi_list' {tg l : Expr} {tl : TE} (hK : X.K = K) (hl : PE X l tl) : PI X tg l (iList K tl) := by subst hK; exact pi_list hl
theorem pi_tup'' {tg l : Expr} {tl : TE} (hK : X.K = K) (hl : PE X l tl) : PI X tg l (iTup K tl) := by subst hK; exact pi_tup hl
theorem ix_list' (hK : X.K = K) : IxR X (rIxL K) := by subst hK; exact ix_list
theorem ix_tup' (hK : X.K = K) : IxR X (rIxT K) := by subst hK; exact ix_tup
theorem sl_list' (hK : X.K = K) : SlR X (rSlL K) := by subst hK; exact sl_list
theorem sl_tup' (hK : X.K = K) : SlR X (rSlT K) := by subst hK; exact sl_tup
theorem op_in_seq' (hK : X.K = K) : OpR X (compareOp .In) (rIn K false) := by subst hK; exact op_in_seq
theorem call_len_seq' (hK : X.K = K) : CallR X (.builtin "len") (fun xs H Q => ∃ p ys, xs = [.ref p] ∧ (SqL K H p ys ∨ SqT K H p ys) ∧ Q (.int ys.length) H) := by subst hK; exact call_len_seq
end
end L2
namespace L2
open PySem PySem.Spec PyProof.Rows
theorem get_list {X : Cx} {K : PySem.W.Frag} (hK : X.K = K) : PGet X (fun o i H Q => ∃ p xs v, ∃ k : Nat, o = .ref p ∧ i = .int k ∧ SqL K H p xs ∧ xs[k]? = some v ∧ Q v H) := by
  subst hK
  intro pins s σ H o i ov iv Q I ro ri h
  obtain ⟨p, xs, v, k, rfl, rfl, hq, hv, q⟩ := h
  cases ro
  obtain ⟨t, rfl⟩ := ri
  obtain ⟨its, r, pl, hz⟩ := I.list hq
  obtain ⟨w, ew, rw'⟩ := r.get hv
  have hk : k < xs.length := (List.getElem?_eq_some_iff.mp hv).1
  have hn := line63
  exact wpAny_getItem_list pl.isList (by omega) (by omega) (by simpa using ew) ⟨v, H, I, rw', q⟩
end L2
set_option Elab.async false
set_option linter.all false
set_option maxRecDepth 100000
set_option maxHeartbeats 4000000
namespace SmSort
open PySem PySem.W PyProof.Rows
def KOK {α : Type} (n : Nat) (c : Nat → Nat → Bool) : KasT α → (α → Prop) → Prop
  | .ret a, P => P a
  | .ask i j k, P => i < n ∧ j < n ∧ KOK n c (k (c i j)) P
theorem KOK.bind {α β : Type} {n : Nat} {c : Nat → Nat → Bool} {f : α → KasT β} {P : β → Prop} : ∀ (t : KasT α), KOK n c t (fun a => KOK n c (f a) P) → KOK n c (t.bind f) P
  | .ret a, h => h
  | .ask i j k, h => ⟨h.1, h.2.1, KOK.bind (k (c i j)) h.2.2⟩
theorem KOK.mono {α : Type} {n : Nat} {c : Nat → Nat → Bool} {P P' : α → Prop} (hp : ∀ a, P a → P' a) : ∀ (t : KasT α), KOK n c t P → KOK n c t P'
  | .ret a, h => hp a h
  | .ask i j k, h => ⟨h.1, h.2.1, KOK.mono hp (k (c i j)) h.2.2⟩
theorem KOK.wp {α : Type} {n : Nat} {c : Nat → Nat → Bool} {P : α → Prop} {Q : α → Shared → Prop} {cmp : Nat → Nat → (Bool → Shared → Prop) → Shared → Prop} {s : Shared}
    (hc : ∀ i j C, i < n → j < n → C (c i j) s → cmp i j C s) (hq : ∀ a, P a → Q a s) : ∀ (t : KasT α), KOK n c t P → t.kasWp cmp Q s
  | .ret a, h => hq a h
  | .ask i j k, h => hc i j _ h.1 h.2.1 (KOK.wp hc hq (k (c i j)) h.2.2)
section
variable {n : Nat} {f : Nat → Int}
def at' (p : Array Nat) (i : Nat) : Nat := (p[i]?).getD 0
theorem getD_at (p : Array Nat) (i : Nat) : p.getD i 0 = at' p i := by unfold at'; simp
def g (f : Nat → Int) (p : Array Nat) (i : Nat) : Int := f (at' p i)
def Pm (n : Nat) (p : Array Nat) : Prop := p.Perm (List.toArray (List.range n))
theorem Pm.size {p : Array Nat} (h : Pm n p) : p.size = n := by rw [Array.Perm.size_eq h]; simp
theorem Pm.lt {p : Array Nat} (h : Pm n p) {i : Nat} (hi : i < n) : at' p i < n := by
  have hs := h.size
  have e : at' p i = p[i]'(by omega) := by unfold at'; simp [hs, hi]
  have hm : p[i]'(by omega) ∈ p := Array.getElem_mem _
  have hm' := (Array.Perm.mem_iff h).mp hm
  rw [e]
  simpa using hm'
theorem Pm.rev {p : Array Nat} (h : Pm n p) (i j : Nat) : Pm n (kas_rev p i j) := (mirror_perm p i j _).trans h
theorem Pm.bub {p : Array Nat} (h : Pm n p) (k d : Nat) : Pm n (bubble p k d) := (bubble_perm p k d).trans h
theorem g_rev {p : Array Nat} {i j : Nat} (hj : j ≤ p.size) (k : Nat) : g f (kas_rev p i j) k = if i ≤ k ∧ k < j then g f p (i + j - 1 - k) else g f p k := by
  unfold g at' kas_rev
  rw [getElem?_mirror_all hj k]
  split <;> rfl
theorem g_bub {p : Array Nat} {src d : Nat} (hs : src < p.size) (hd : d ≤ src) (k : Nat) : g f (bubble p src d) k = if k = src - d then g f p src else if src - d < k ∧ k ≤ src then g f p (k - 1) else g f p k := by
  unfold g at'
  rw [getElem?_bubble hs d hd k]
  split
  · rfl
  · split <;> rfl
def Up (f : Nat → Int) (p : Array Nat) (k : Nat) : Prop := ∀ i j, i ≤ j → j < k → g f p i ≤ g f p j
def Dn (f : Nat → Int) (p : Array Nat) (k : Nat) : Prop := ∀ i j, i ≤ j → j < k → g f p j ≤ g f p i
def cf (f : Nat → Int) (i j : Nat) : Bool := decide (f i < f j)
theorem asc_ok {p : Array Nat} (hp : Pm n p) : ∀ (q m : Nat), 1 ≤ m → m + q ≤ n → Up f p m → KOK n (cf f) (kas_asc p q m) (fun m' => m ≤ m' ∧ m' ≤ m + q ∧ Up f p m' ∧ (m' < m + q → g f p m' < g f p (m' - 1)))
  | 0, m, _, _, hu => ⟨Nat.le_refl _, Nat.le_refl _, hu, fun h => absurd h (Nat.lt_irrefl _)⟩
  | q + 1, m, h1, h2, hu => by
    unfold kas_asc
    refine ⟨by rw [getD_at]; exact hp.lt (by omega), by rw [getD_at]; exact hp.lt (by omega), ?_⟩
    rw [getD_at, getD_at]
    by_cases hc : g f p m < g f p (m - 1)
    · have e : cf f (at' p m) (at' p (m - 1)) = true := decide_eq_true hc
      rw [e]; dsimp only; rw [if_pos rfl]
      exact ⟨Nat.le_refl _, by omega, hu, fun _ => hc⟩
    · have e : cf f (at' p m) (at' p (m - 1)) = false := decide_eq_false hc
      rw [e]; dsimp only; rw [if_neg Bool.false_ne_true]
      refine KOK.mono (fun m' h => ⟨by omega, by omega, h.2.2.1, fun z => h.2.2.2 (by omega)⟩) _ (asc_ok hp q (m + 1) (by omega) (by omega) fun i j hij hj => ?_)
      by_cases hjm : j < m
      · exact hu i j hij hjm
      · have ej : j = m := by omega
        subst ej
        by_cases hi : i = j
        · subst hi; omega
        · have := hu i (j - 1) (by omega) (by omega)
          omega
def Blk (f : Nat → Int) (p : Array Nat) (m q : Nat) : Prop := ∀ i, m ≤ i + (q + 1) → i < m → g f p i = g f p (m - 1)
theorem rev_same {p : Array Nat} (hp : Pm n p) {m q : Nat} (hm : m ≤ n) (hq : q + 1 ≤ m) (hb : Blk f p m q) (k : Nat) : g f (kas_rev p (m - (q + 1)) m) k = g f p k := by
  rw [g_rev (by rw [hp.size]; exact hm)]
  split
  · rename_i h
    rw [hb _ (by omega) (by omega), hb k (by omega) (by omega)]
  · rfl
theorem desc_ok : ∀ (t : Nat) (p : Array Nat) (m q : Nat), Pm n p → 1 ≤ m → m + t ≤ n → q + 1 ≤ m → Dn f p m → Blk f p m q →
    KOK n (cf f) (kas_desc t p m q) (fun r => Pm n r.1 ∧ m ≤ r.2.1 ∧ r.2.1 ≤ n ∧ r.2.2 + 1 ≤ r.2.1 ∧ Dn f r.1 r.2.1 ∧ Blk f r.1 r.2.1 r.2.2)
  | 0, p, m, q, hp, h1, h2, h3, hd, hb => ⟨hp, Nat.le_refl _, by simpa using h2, h3, hd, hb⟩
  | t + 1, p, m, q, hp, h1, h2, h3, hd, hb => by
    unfold kas_desc
    refine ⟨by rw [getD_at]; exact hp.lt (by omega), by rw [getD_at]; exact hp.lt (by omega), ?_⟩
    rw [getD_at, getD_at]
    by_cases hc : g f p m < g f p (m - 1)
    · have e : cf f (at' p m) (at' p (m - 1)) = true := decide_eq_true hc
      rw [e]; dsimp only; rw [if_pos rfl]
      have step : ∀ p' : Array Nat, Pm n p' → (∀ k, g f p' k = g f p k) → KOK n (cf f) (kas_desc t p' (m + 1) 0) (fun r => Pm n r.1 ∧ m ≤ r.2.1 ∧ r.2.1 ≤ n ∧ r.2.2 + 1 ≤ r.2.1 ∧ Dn f r.1 r.2.1 ∧ Blk f r.1 r.2.1 r.2.2) := fun p' hp' hg => by
        refine KOK.mono (fun r h => ⟨h.1, by omega, h.2.2⟩) _ (desc_ok t p' (m + 1) 0 hp' (by omega) (by omega) (by omega) (fun i j hij hj => ?_) fun i hi hi' => ?_)
        · rw [hg, hg]
          by_cases hjm : j < m
          · exact hd i j hij hjm
          · have ej : j = m := by omega
            subst ej
            by_cases hi : i = j
            · subst hi; omega
            · have := hd i (j - 1) (by omega) (by omega)
              omega
        · have : i = m + 1 - 1 := by omega
          rw [this]
      split
      · exact step _ (hp.rev _ _) (rev_same hp (by omega) h3 hb)
      · exact step _ hp fun _ => rfl
    · have e : cf f (at' p m) (at' p (m - 1)) = false := decide_eq_false hc
      rw [e]; dsimp only; rw [if_neg Bool.false_ne_true]
      refine ⟨hp.lt (by omega), hp.lt (by omega), ?_⟩
      by_cases hc2 : g f p (m - 1) < g f p m
      · have e2 : cf f (at' p (m - 1)) (at' p m) = true := decide_eq_true hc2
        rw [e2]; dsimp only; rw [if_pos rfl]
        exact ⟨hp, Nat.le_refl _, by show m ≤ n; omega, h3, hd, hb⟩
      · have e2 : cf f (at' p (m - 1)) (at' p m) = false := decide_eq_false hc2
        rw [e2]; dsimp only; rw [if_neg Bool.false_ne_true]
        have eq : g f p m = g f p (m - 1) := by omega
        refine KOK.mono (fun r h => ⟨h.1, by omega, h.2.2⟩) _ (desc_ok t p (m + 1) (q + 1) hp (by omega) (by omega) (by omega) (fun i j hij hj => ?_) fun i hi hi' => ?_)
        · by_cases hjm : j < m
          · exact hd i j hij hjm
          · have ej : j = m := by omega
            subst ej
            by_cases hi : i = j
            · subst hi; omega
            · have := hd i (j - 1) (by omega) (by omega)
              omega
        · rw [show m + 1 - 1 = m from rfl]
          by_cases hi2 : i = m
          · rw [hi2]
          · rw [hb i (by omega) (by omega), eq]
theorem tail3_ok {p : Array Nat} {m : Nat} (hp : Pm n p) (h1 : 1 ≤ m) (hm : m ≤ n) (hd : Dn f p m) : KOK n (cf f) (kas_tail3 m n p) (fun r => Pm n r.2 ∧ r.1 ≤ n ∧ 1 ≤ r.1 ∧ Up f r.2 r.1) := by
  unfold kas_tail3
  have hp' := hp.rev 0 m
  refine KOK.bind _ (KOK.mono (fun m' h => ⟨hp', by omega, by omega, h.2.2.1⟩) _ (asc_ok hp' (n - m) m h1 (by omega) fun i j hij hj => ?_))
  rw [g_rev (by rw [hp.size]; exact hm), g_rev (by rw [hp.size]; exact hm), if_pos ⟨by omega, by omega⟩, if_pos ⟨by omega, by omega⟩]
  exact hd _ _ (by omega) (by omega)
theorem descPart_ok {p : Array Nat} {m : Nat} (hp : Pm n p) (h1 : 1 ≤ m) (hm : m < n) (hd : Dn f p (m + 1)) : KOK n (cf f) (kas_descPart m n p) (fun r => Pm n r.2 ∧ r.1 ≤ n ∧ 1 ≤ r.1 ∧ Up f r.2 r.1) := by
  unfold kas_descPart
  refine KOK.bind _ (KOK.mono (fun r h => ?_) _ (desc_ok (n - (m + 1)) p (m + 1) 0 hp (by omega) (by omega) (by omega) hd fun i hi hi' => by rw [show i = m + 1 - 1 by omega]))
  obtain ⟨a1, a2, a3, a4, a5, a6⟩ := h
  split
  · exact tail3_ok (a1.rev _ _) (by omega) a3 fun i j hij hj => by
      rw [rev_same a1 a3 a4 a6, rev_same a1 a3 a4 a6]
      exact a5 i j hij hj
  · exact tail3_ok a1 (by omega) a3 a5
theorem count_ok {p : Array Nat} (hn : 1 ≤ n) (hp : Pm n p) : KOK n (cf f) (kas_count n p) (fun r => Pm n r.2 ∧ r.1 ≤ n ∧ 1 ≤ r.1 ∧ Up f r.2 r.1) := by
  unfold kas_count
  refine KOK.bind _ (KOK.mono (fun m h => ?_) _ (asc_ok hp (n - 1) 1 (Nat.le_refl _) (by omega) fun i j hij hj => by rw [show i = j by omega]; omega))
  obtain ⟨a1, a2, a3, a4⟩ := h
  split
  · exact ⟨hp, by omega, a1, a3⟩
  · rename_i hne
    have hlt : m < n := by
      have : ¬ m = n := by simpa using hne
      omega
    have a4' := a4 (by omega)
    split
    · rename_i hm1
      refine ⟨by rw [getD_at]; exact hp.lt (by omega), by rw [getD_at]; exact hp.lt (by omega), ?_⟩
      rw [getD_at, getD_at]
      by_cases hc : g f p 0 < g f p (m - 1)
      · have e : cf f (at' p 0) (at' p (m - 1)) = true := decide_eq_true hc
        rw [e]; dsimp only; rw [if_pos rfl]
        exact ⟨hp, by omega, a1, a3⟩
      · have e : cf f (at' p 0) (at' p (m - 1)) = false := decide_eq_false hc
        rw [e]; dsimp only; rw [if_neg Bool.false_ne_true]
        have all : ∀ k, k < m → g f p k = g f p 0 := fun k hk => by
          have := a3 0 k (by omega) hk
          have := a3 k (m - 1) (by omega) (by omega)
          omega
        have gr : ∀ k, g f (kas_rev p 0 m) k = g f p k := fun k => by
          rw [g_rev (by rw [hp.size]; omega)]
          split
          · rw [all _ (by omega), all k (by omega)]
          · rfl
        refine descPart_ok (hp.rev _ _) a1 hlt fun i j hij hj => ?_
        rw [gr, gr]
        by_cases hjm : j < m
        · rw [all i (by omega), all j hjm]; omega
        · have ej : j = m := by omega
          subst ej
          by_cases hi : i = j
          · subst hi; omega
          · have := all i (by omega)
            have := all (j - 1) (by omega)
            omega
    · refine descPart_ok hp a1 hlt fun i j hij hj => ?_
      have em : m = 1 := by omega
      subst em
      by_cases hi : i = j
      · subst hi; omega
      · have e1 : i = 0 := by omega
        have e2 : j = 1 := by omega
        subst e1 e2
        have : g f p 1 < g f p 0 := a4'
        omega
theorem place_ok {p : Array Nat} {k : Nat} (hp : Pm n p) (hk : k < n) (hu : Up f p k) : ∀ (t l r : Nat), l ≤ r → r ≤ k → r ≤ l + t → (∀ i, i < l → g f p i ≤ g f p k) → (∀ i, r ≤ i → i < k → g f p k < g f p i) →
    KOK n (cf f) (kas_place p k t l r) (fun l' => l' ≤ k ∧ (∀ i, i < l' → g f p i ≤ g f p k) ∧ ∀ i, l' ≤ i → i < k → g f p k < g f p i)
  | 0, l, r, h1, h2, h3, ha, hb => ⟨by omega, ha, fun i hi hi' => hb i (by omega) hi'⟩
  | t + 1, l, r, h1, h2, h3, ha, hb => by
    unfold kas_place
    split
    · exact ⟨by omega, ha, fun i hi hi' => hb i (by omega) hi'⟩
    · rename_i hlr
      refine ⟨by rw [getD_at]; exact hp.lt hk, by rw [getD_at]; exact hp.lt (by omega), ?_⟩
      rw [getD_at, getD_at]
      by_cases hc : g f p k < g f p ((l + r) / 2)
      · have e : cf f (at' p k) (at' p ((l + r) / 2)) = true := decide_eq_true hc
        rw [e]; dsimp only; rw [if_pos rfl]
        refine place_ok hp hk hu t l ((l + r) / 2) (by omega) (by omega) (by omega) ha fun i hi hi' => ?_
        have := hu ((l + r) / 2) i (by omega) hi'
        omega
      · have e : cf f (at' p k) (at' p ((l + r) / 2)) = false := decide_eq_false hc
        rw [e]; dsimp only; rw [if_neg Bool.false_ne_true]
        refine place_ok hp hk hu t ((l + r) / 2 + 1) r (by omega) (by omega) (by omega) (fun i hi => ?_) hb
        have := hu i ((l + r) / 2) (by omega) (by omega)
        omega
theorem bin_ok : ∀ (t : Nat) (p : Array Nat) (k : Nat), Pm n p → k + t = n → Up f p k → KOK n (cf f) (kas_bin t p k) (fun p' => Pm n p' ∧ Up f p' n)
  | 0, p, k, hp, hk, hu => ⟨hp, by rw [← hk]; exact hu⟩
  | t + 1, p, k, hp, hk, hu => by
    unfold kas_bin
    refine KOK.bind _ (KOK.mono (fun l h => ?_) _ (place_ok hp (by omega) hu k 0 k (by omega) (by omega) (by omega) (fun i hi => absurd hi (Nat.not_lt_zero _)) fun i hi hi' => absurd hi' (by omega)))
    obtain ⟨a1, a2, a3⟩ := h
    refine bin_ok t _ (k + 1) (hp.bub _ _) (by omega) fun i j hij hj => ?_
    have hs : k < p.size := by rw [hp.size]; omega
    rw [g_bub hs (by omega), g_bub hs (by omega)]
    have el : k - (k - l) = l := by omega
    rw [el]
    by_cases hil : i = l
    · rw [if_pos hil]
      by_cases hjl : j = l
      · rw [if_pos hjl]; omega
      · rw [if_neg hjl, if_pos ⟨by omega, by omega⟩]
        have := a3 (j - 1) (by omega) (by omega)
        omega
    · rw [if_neg hil]
      by_cases hi2 : l < i ∧ i ≤ k
      · rw [if_pos hi2]
        rw [if_neg (by omega), if_pos ⟨by omega, by omega⟩]
        exact hu _ _ (by omega) (by omega)
      · rw [if_neg hi2]
        have hi3 : i < l := by omega
        by_cases hjl : j = l
        · rw [if_pos hjl]; exact a2 i hi3
        · rw [if_neg hjl]
          by_cases hj2 : l < j ∧ j ≤ k
          · rw [if_pos hj2]; exact hu _ _ (by omega) (by omega)
          · rw [if_neg hj2]; exact hu _ _ hij (by omega)
theorem sort_ok (hn : 1 ≤ n) : KOK n (cf f) (kas_sort n) (fun p => Pm n p ∧ Up f p n) := by
  unfold kas_sort
  refine KOK.bind _ (KOK.mono (fun r h => ?_) _ (count_ok hn (show Pm n (List.toArray (List.range n)) from Array.Perm.refl _)))
  obtain ⟨a1, a2, a3, a4⟩ := h
  split
  · have e : max r.1 1 = r.1 := by omega
    rw [e]
    exact bin_ok _ _ _ a1 (by omega) a4
  · have e : r.1 = n := by omega
    exact ⟨a1, by rw [← e]; exact a4⟩
end
end SmSort
set_option Elab.async false
set_option linter.all false
set_option maxRecDepth 100000
set_option maxHeartbeats 4000000
namespace SmSort
def lx : List Int → List Int → Bool
  | [], [] => false
  | [], _ :: _ => true
  | _ :: _, [] => false
  | x :: xs, y :: ys => if x = y then lx xs ys else decide (x < y)
theorem lx_irr : ∀ r : List Int, lx r r = false
  | [] => rfl
  | x :: xs => by unfold lx; rw [if_pos rfl]; exact lx_irr xs
theorem lx_tr : ∀ {a b c : List Int}, lx a b = true → lx b c = true → lx a c = true
  | [], [], _, h, _ => by cases h
  | [], _ :: _, [], _, h => by cases h
  | [], _ :: _, _ :: _, _, _ => rfl
  | _ :: _, [], _, h, _ => by cases h
  | _ :: _, _ :: _, [], _, h => by cases h
  | x :: xs, y :: ys, z :: zs, h, h' => by
    unfold lx at h h' ⊢
    split at h
    · split at h'
      · rename_i e1 e2; rw [if_pos (e1.trans e2)]; exact lx_tr h h'
      · rename_i e1 e2
        simp only [decide_eq_true_eq] at h'
        rw [if_neg (by omega)]; simp only [decide_eq_true_eq]; omega
    · simp only [decide_eq_true_eq] at h
      split at h'
      · rename_i e1 e2
        rw [if_neg (by omega)]; simp only [decide_eq_true_eq]; omega
      · simp only [decide_eq_true_eq] at h'
        rw [if_neg (by omega)]; simp only [decide_eq_true_eq]; omega
theorem lx_tot : ∀ {a b : List Int}, lx a b = false → lx b a = false → a = b
  | [], [], _, _ => rfl
  | [], _ :: _, h, _ => by cases h
  | _ :: _, [], _, h => by cases h
  | x :: xs, y :: ys, h, h' => by
    unfold lx at h h'
    split at h
    · rename_i e; subst e; rw [if_pos rfl] at h'; rw [lx_tot h h']
    · rename_i e
      rw [if_neg fun z => e z.symm] at h'
      simp only [decide_eq_false_iff_not] at h h'
      omega
def rk (rs : List (List Int)) (r : List Int) : Int := ((rs.countP fun x => lx x r : Nat) : Int)
theorem countP_lt {α : Type} {p q : α → Bool} {a : α} : ∀ {l : List α}, (∀ x, p x = true → q x = true) → a ∈ l → p a = false → q a = true → l.countP p < l.countP q
  | [], _, h, _, _ => by cases h
  | x :: l, hpq, h, h1, h2 => by
    have hm : l.countP p ≤ l.countP q := List.countP_mono_left fun x _ => hpq x
    rcases List.mem_cons.mp h with rfl | h
    · rw [List.countP_cons_of_neg (by rw [h1]; exact Bool.false_ne_true), List.countP_cons_of_pos h2]; omega
    · have := countP_lt hpq h h1 h2
      rw [List.countP_cons, List.countP_cons]
      cases e : p x with
      | true => rw [hpq x e]; simp; omega
      | false => cases e2 : q x <;> simp <;> omega
theorem rk_lt {rs : List (List Int)} {a b : List Int} (ha : a ∈ rs) : decide (rk rs a < rk rs b) = lx a b := by
  unfold rk
  cases h : lx a b with
  | true =>
    have := countP_lt (p := fun x => lx x a) (q := fun x => lx x b) (fun x hx => lx_tr hx h) ha (lx_irr a) h
    simp only [decide_eq_true_eq]; omega
  | false =>
    have hm : rs.countP (fun x => lx x b) ≤ rs.countP (fun x => lx x a) := List.countP_mono_left fun x _ hx => by
      cases h' : lx b a with
      | true => exact lx_tr hx h'
      | false => rw [lx_tot h h']; exact hx
    simp only [decide_eq_false_iff_not]; omega
end SmSort
namespace L2
open PySem PySem.Spec PyProof.Rows PySem.W SmSort
theorem ObjOk.at {P : Program} {w : World} {H : Hp} {h : Heap} {a : Addr} {o : HO} (x : ObjOk P w H h a o) : ∃ ob, h.get? a = some ob := by
  cases o with
  | lst xs => obtain ⟨_, _, _, _, e⟩ := x; exact ⟨_, e⟩
  | tup xs => obtain ⟨_, _, _, ob, e, _⟩ := x; exact ⟨_, e⟩
  | dK kvs => obtain ⟨_, _, _, _, o, _, _, e, _⟩ := x; exact ⟨_, e⟩
  | dT kvs => obtain ⟨_, _, _, _, o, _, _, e, _⟩ := x; exact ⟨_, e⟩
  | set S n => obtain ⟨o, _, _, _, e, _⟩ := x; exact ⟨_, e⟩
  | ins C dx fs => obtain ⟨_, _, _, e, _⟩ := x; exact ⟨_, e⟩
  | own y => obtain ⟨_, e⟩ := x; exact ⟨_, e⟩
  | xd fs => obtain ⟨_, ⟨_, _, _, e, _⟩, _⟩ := x; exact ⟨_, e⟩
  | rng lo hi => obtain ⟨_, _, _, e⟩ := x; exact ⟨_, e⟩
  | frz ob u => obtain ⟨e, _⟩ := x; exact ⟨_, e⟩
  | tbl ps => exact ⟨_, (show h.get? a = some _ from x)⟩
  | met f y => exact ⟨_, (show h.get? a = some _ from x)⟩
  | ext φ => obtain ⟨_, ⟨_, e⟩, _⟩ := x; exact ⟨_, e⟩
section
variable {X : Cx} {pins : List (Addr × Obj)} {σ : St} {H : Hp} {s : Shared}
theorem Inv.sortedTo {m : Str → Option Value} {h' : Heap} {D : Addr} {its : List Value} {c : Nat} {xs : List V} (I : Inv X pins σ H s) (F0 : Fr X.base X.env.locals s.heap m) (F : Fr X.base X.env.locals h' m)
    (N : News X.base X.env.locals h' ((D, listOf its.toArray c) :: allNews X.base s.heap X.env.locals)) (lt : ∀ q ∈ allNews X.base s.heap X.env.locals, q.1 < D) (hv : Vals xs its) (hz : xs.length ≤ sizeLine) :
    Inv X pins σ (upd H D (.lst xs)) { s with heap := h' } ∧ H D = none := by
  obtain ⟨eD, nL, nb⟩ := N (D, listOf its.toArray c) (.head _)
  have oldD : s.heap.get? D = none := by
    cases q : s.heap.get? D with
    | none => rfl
    | some o => exact absurd (lt (D, o) (mem_allNews nL nb q)) (Nat.lt_irrefl _)
  have hD : H D = none := by
    cases q : H D with
    | none => rfl
    | some u =>
      obtain ⟨ob, e⟩ := (I.hok D u q).at
      rw [oldD] at e; cases e
  have keep : ∀ b o, b ≠ X.env.locals → s.heap.get? b = some o → h'.get? b = some o := fun b o hb e => by
    cases q : X.base.get? b with
    | some u =>
      have := I.bk b u q
      rw [e] at this; cases this
      exact F.keep b _ q
    | none => exact (N (b, o) (.tail _ (mem_allNews hb q e))).1
  have neD : ∀ b o, s.heap.get? b = some o → b ≠ D := fun b o e z => by rw [z, oldD] at e; cases e
  have neT : ∀ b u, H b = some u → b ≠ D := fun b u e z => by rw [z, hD] at e; cases e
  refine ⟨I.step (g' := s.gens) (t' := s.toks) (d' := s.drawn) (ch := []) (fun _ z => nomatch z) (fun b o hb _ _ e _ => keep b o hb e) (fun b o hb _ _ e _ => ⟨o.slots, keep b o hb e⟩) (fun b o _ e n => by rw [upd_ne (neD b o e)]; exact n) (fun b o _ e => ?_)
    (fun b ys e => by rw [upd_ne (neT b _ e)]; exact e) (fun b o u e => by rw [upd_ne (neT b _ e)]; exact e) (fun b ps e => ⟨#[], by rw [upd_ne (neT b _ e), e, Array.append_empty]⟩) (fun m' hm => ?_) (fun b u e => ?_) I.bare, hD⟩
  · by_cases hb : b = X.env.locals
    · obtain ⟨o', _, _, q, _⟩ := F.ns
      exact ⟨o', by rw [hb]; exact q⟩
    · exact ⟨o, keep b o hb e⟩
  · obtain ⟨o1, es1, ep1, e1, d1, k1, f1⟩ := hm
    obtain ⟨o2, es2, ep2, e2, d2, k2, f2⟩ := F0.ns
    rw [e1] at e2; cases e2
    rw [d1] at d2; cases d2
    obtain ⟨o3, es3, ep3, e3, d3, k3, f3⟩ := F.ns
    exact ⟨o3, es3, ep3, e3, d3, k3, fun name => (f3 name).trans ((f2 name).symm.trans (f1 name))⟩
  · by_cases hb : b = D
    · subst hb; rw [upd_same] at e; cases e
      exact ⟨hz, its, c, hv, eD⟩
    · rw [upd_ne hb] at e
      refine (I.hok b u e).stay (fun c v hc q => keep c v (fun z => ?_) q) (fun c q => by rw [upd_ne (neT c _ q)]; exact q) fun c ys q => by rw [upd_ne (neT c _ q)]; exact q
      rcases hc with rfl | hc
      · rw [z, I.free] at e; cases e
      · rw [z, I.free] at hc; cases hc
end
section
variable {prog : Program} {w : World} {A : Around} {E : Value → Shared → Prop} {s : Shared}
theorem sort_short {a : Addr} {its : List Value} {k : Nat} {P : PySem.Fin → Shared → Prop} (hx : s.heap.get? a = some (seqObj "list" its.toArray k)) (few : its.length < 2)
    (done : P (.done (.ret .none)) { s with heap := sortedHeap s.heap a its its.toArray }) : wpAny (model prog w) A (Builtin.«list.sort» ⟨[.ref a], []⟩) P E s := by
  have here : a < s.heap.objs.size := Heap.lt_size hx
  have line : its.length ≤ sizeLine := by rw [sizeLine_eq]; omega
  rw [list_sort_plain]
  obtain ⟨e1, at1⟩ : ∃ e1, (s.heap.update a (Obj.mapSeq fun _ => (#[] : Array Value))).get? a = some (seqObj "list" #[] e1) := ⟨_, get?_update_seq hx (fun _ => #[])⟩
  refine wpAny_bind (listItems_at hx rfl (wpAny_bind (listUpdate_at hx rfl (wpAny_bind (seqEpoch_at at1 rfl (wpAny_bind (wpAny_newTuple (wpAny_bind (wpAny_newList (wpAny_holding ?_) (Nat.zero_le _))) line))))
    (by rw [List.size_toArray]; exact line) (Nat.zero_le _))))
  have at2 : (((s.heap.update a (Obj.mapSeq fun _ => (#[] : Array Value))).push (seqObj "tuple" its.toArray 0)).push (seqObj "list" #[] 0)).get? a = some (seqObj "list" #[] e1) :=
    Heap.get?_push_of_some _ (Heap.get?_push_of_some _ at1)
  show wpAny (model prog w) A _ P E { s with heap := ((s.heap.update a (Obj.mapSeq fun _ => (#[] : Array Value))).push (seqObj "tuple" its.toArray 0)).push (seqObj "list" #[] 0) }
  have less : its.toArray.size < 2 := by rw [List.size_toArray]; exact few
  have snds : (arrOf (SortSt.mk' general' (its.toArray.zip its.toArray) #[] 7 none)).map (·.2) = its.toArray := by
    show (its.toArray.zip its.toArray).map (·.2) = its.toArray
    match its, few with
    | [], _ => simp
    | [_], _ => simp
  dsimp only
  rw [if_pos less, if_pos less]
  refine wpAny_bind (wpAny_pure ?_)
  rw [StateT.run_pure]
  refine wpAny_bind (wpAny_pure ?_)
  dsimp only
  refine wpAny_bind (seqEpoch_at at2 rfl (wpAny_bind (listUpdate_at at2 rfl ?_ (Nat.zero_le _) (by rw [snds, List.size_toArray]; omega))))
  simp only [bne_self_eq_false, Bool.false_eq_true, if_false]
  rw [snds]
  exact wpAny_pure done
theorem sorted_short {l : Addr} {its : List Value} {Q : Value → Shared → Prop} (hl : s.heap.IsList l its.toArray) (few : its.length < 2)
    (done : Q (.ref (s.heap.objs.size + 1)) { s with heap := sortedAll s.heap its its.toArray }) : wpAny (model prog w) A (call (.builtin "sorted") [.ref l]) Q E s := by
  have line : its.length ≤ sizeLine := by rw [sizeLine_eq]; omega
  refine Calls.call_function_entry kind_sorted plain_sorted entry_sorted (args_sorted1 _) ?_
  unfold Builtin.«sorted»
  refine wpAny_bind (m := checkCount "sorted" 1 1 _) (wpAny_pure (wpAny_bind (collect_list hl (wpAny_bind (wpAny_newList ?_ line)) line)))
  have sz : ((s.heap.push (seqObj "list" #[] 0)).update s.heap.objs.size (Obj.mapSeq (· ++ its.toArray))).objs.size = s.heap.objs.size + 1 := by rw [Heap.size_update, size_push']
  have atL : (((s.heap.push (seqObj "list" #[] 0)).update s.heap.objs.size (Obj.mapSeq (· ++ its.toArray))).push (seqObj "list" its.toArray 0)).get? (s.heap.objs.size + 1) = some (seqObj "list" its.toArray 0) := by
    rw [← sz]; exact Heap.get?_push_size _ rfl
  show wpAny _ _ _ _ _ { s with heap := ((s.heap.push (seqObj "list" #[] 0)).update s.heap.objs.size (Obj.mapSeq (· ++ its.toArray))).push (seqObj "list" its.toArray 0) }
  rw [sz]
  exact wpAny_bind (wpAny_holding (wpAny_call_entry slot_list_sort ⟨_, atL, rfl⟩ entry_list_sort (sort_short atL few ⟨_, rfl, wpAny_pure ⟨_, rfl, done⟩⟩) (args_list_sort _)))
end
section
variable {X : Cx}
theorem vals_refs : ∀ {ps : List (Addr × List Int)} {us : List Value}, Vals (ps.map fun a => V.ref a.1) us → us = ps.map fun a => Value.ref a.1
  | [], us, r => by cases r; rfl
  | a :: ps, us, r => by
    cases r with
    | cons x y => rw [vals_refs y]; cases x; rfl
def RowAt (h : Heap) (a : Addr) (r : List Int) : Prop := ∃ o items n, h.get? a = some o ∧ o.cls = .type "tuple" ∧ o.data = .seq items n ∧ Vals (r.map V.int) items.toList
theorem vals_lex {prog : Program} {w : World} {A : Around} {s : Shared} {b fin : Bool} {Q : Bool → Shared → Prop} : ∀ {r r' : List Int} {us us' : List Value} {i : Nat}, Vals (r.map V.int) us → Vals (r'.map V.int) us' → fin = decide (us.length < us'.length) → Q (lx r r') s →
    KatLex prog w A b fin Q (us.zip us') i s
  | [], [], us, us', i, ru, ru', hf, q => by cases ru; cases ru'; exact kat_nil (by rw [hf]; exact q)
  | [], _ :: _, us, us', i, ru, ru', hf, q => by
    cases ru; cases ru' with
    | cons _ _ => exact kat_nil (by rw [hf]; simpa [lx] using q)
  | _ :: _, [], us, us', i, ru, ru', hf, q => by
    cases ru'; cases ru with
    | cons _ _ => exact kat_nil (by rw [hf]; simpa [lx] using q)
  | x :: r, y :: r', us, us', i, ru, ru', hf, q => by
    cases ru with
    | cons rx ru =>
    cases ru' with
    | cons ry ru' =>
    obtain ⟨t, rfl⟩ := rx
    obtain ⟨t', rfl⟩ := ry
    refine kat_cons (wpAny_eqBool_int ?_)
    unfold lx at q
    by_cases e : x = y
    · subst e
      rw [if_pos rfl] at q
      rw [show (x == x) = true from by simp]
      exact kat_yes (vals_lex ru ru' (by rw [hf]; simp) q)
    · rw [if_neg e] at q
      rw [show (x == y) = false from by simpa using e]
      refine kat_no ?_
      cases (b && i == 0) with
      | true => exact oneLt_int q
      | false => exact kat_one _ _ (lt_int q)
theorem kat_tups {h : Heap} : ∀ {ps : List (Addr × List Int)}, (∀ a ∈ ps, RowAt h a.1 a.2 ∧ a.2 ≠ []) → ∃ fs, KatTups h (ps.map fun a => Value.ref a.1) fs ∧ fs.length = ps.length ∧ ∀ v ∈ fs, ∃ i t, v = Value.int i t
  | [], _ => ⟨[], KatTups.nil, rfl, fun _ z => nomatch z⟩
  | (a, r) :: ps, hp => by
    obtain ⟨fs, k, l, f⟩ := kat_tups fun a ha => hp a (.tail _ ha)
    obtain ⟨⟨o, items, n, ho, hc, hd, hv⟩, hn⟩ := hp (a, r) (.head _)
    match r, hn, hv with
    | x :: r, _, hv =>
      obtain ⟨u, hu, t, e⟩ := Vals.get (i := 0) hv rfl
      refine ⟨u :: fs, KatTups.cons ho hc hd (by rw [← hu]; simp) k, by simp [l], fun v hv => ?_⟩
      rcases List.mem_cons.mp hv with rfl | hv
      · exact ⟨x, t, e⟩
      · exact f v hv
theorem range_map {α : Type} (d : α) (l : List α) : (List.range l.length).map (fun i => l.getD i d) = l := by
  apply List.ext_getElem
  · simp
  · intro i h1 h2
    simp [List.getD, h2]
theorem vals_of_refs : ∀ (ps : List (Addr × List Int)), Vals (ps.map fun a => V.ref a.1) (ps.map fun a => Value.ref a.1)
  | [] => .nil
  | _ :: ps => .cons rfl (vals_of_refs ps)
theorem call_sortT : CallR X (.builtin "sorted") (fun xs H Q => ∃ p, ∃ ps : List (Addr × List Int), xs = [.ref p] ∧ SqL X.K H p (ps.map fun a => V.ref a.1) ∧ ps.length < 64 ∧ (∀ a ∈ ps, H a.1 = some (.tup (a.2.map V.int)) ∧ a.2 ≠ []) ∧
    ∀ l qs, H l = none → List.Perm qs ps → qs.Pairwise (fun a b => lx b.2 a.2 = false) → Q (.ref l) (upd H l (.lst (qs.map fun a => V.ref a.1)))) := by
  intro pins s σ H xs us Q I r h
  obtain ⟨p, ps, rfl, hq, h64, hrow, q⟩ := h
  obtain ⟨u, rfl, rx⟩ := vals1 r
  cases rx
  obtain ⟨its, r', pl, hz⟩ := I.list hq
  have ei := vals_refs r'
  subst ei
  have hlen : (ps.map fun a => Value.ref a.1).length = ps.length := by simp
  by_cases h2 : ps.length < 2
  · refine sorted_short pl.isList (by omega) ?_
    have sz : ((s.heap.push (seqObj "list" #[] 0)).update s.heap.objs.size (Obj.mapSeq (· ++ (ps.map fun a => Value.ref a.1).toArray))).objs.size = s.heap.objs.size + 1 := by rw [Heap.size_update, size_push']
    have kp : ∀ b o, s.heap.get? b = some o → (sortedAll s.heap (ps.map fun a => Value.ref a.1) (ps.map fun a => Value.ref a.1).toArray).get? b = some o := fun b o e => by
      have lb : b < s.heap.objs.size := Heap.lt_size e
      unfold sortedAll sortedHeap
      rw [Heap.get?_update_ne _ _ _ _ (Nat.ne_of_lt (Nat.lt_succ_of_lt lb))]
      refine Heap.get?_push_of_some _ (Heap.get?_push_of_some _ ?_)
      rw [Heap.get?_update_ne _ _ _ _ (Nat.ne_of_lt (Nat.lt_succ_of_lt lb))]
      refine Heap.get?_push_of_some _ ?_
      rw [Heap.get?_update_ne _ _ _ _ (Nat.ne_of_lt lb)]
      exact Heap.get?_push_of_some _ e
    obtain ⟨c, ec⟩ : ∃ c, (sortedAll s.heap (ps.map fun a => Value.ref a.1) (ps.map fun a => Value.ref a.1).toArray).get? (s.heap.objs.size + 1) = some (seqObj "list" (ps.map fun a => Value.ref a.1).toArray c) := by
      have e0 := Heap.get?_push_size ((s.heap.push (seqObj "list" #[] 0)).update s.heap.objs.size (Obj.mapSeq (· ++ (ps.map fun a => Value.ref a.1).toArray))) (o := seqObj "list" (ps.map fun a => Value.ref a.1).toArray 0) rfl
      rw [sz] at e0
      unfold sortedAll sortedHeap
      have e1 := get?_update_seq e0 (fun _ => (#[] : Array Value))
      exact ⟨_, get?_update_seq (Heap.get?_push_of_some _ (Heap.get?_push_of_some _ e1)) _⟩
    refine ⟨.ref (s.heap.objs.size + 1), _, I.laid (t' := s.toks) kp (Nat.le_succ _) (show ObjOk X.prog X.w _ _ _ (.lst (ps.map fun a => V.ref a.1)) from ⟨hz, _, c, r', ec⟩), rfl, q _ ps (I.hok.fresh (Nat.le_succ _)) (List.Perm.refl _) ?_⟩
    match ps, h2 with
    | [], _ => exact .nil
    | [_], _ => exact List.pairwise_singleton _ _
  · obtain ⟨m, F⟩ := I.fr
    refine kat_sorted F (news_all (g := X.base) (h := s.heap)) pl.isList (by omega) (by omega) fun D e1 h' F' N' lt => ?_
    have keep : ∀ b o, b ≠ X.env.locals → s.heap.get? b = some o → h'.get? b = some o := fun b o hb e => by
      cases q : X.base.get? b with
      | some u =>
        have := I.bk b u q
        rw [e] at this; cases this
        exact F'.keep b _ q
      | none => exact (N' (b, o) (.tail _ (mem_allNews hb q e))).1
    have rowAt : ∀ a ∈ ps, RowAt h' a.1 a.2 ∧ a.2 ≠ [] := fun a ha => by
      obtain ⟨ht, hn⟩ := hrow a ha
      obtain ⟨_, its, rv, o, e, c, n, d⟩ := I.hok a.1 _ ht
      refine ⟨⟨o, _, n, keep a.1 o (fun z => ?_) e, c, d, rv⟩, hn⟩
      rw [z, I.free] at ht; cases ht
    obtain ⟨fs, kt, lf, hf⟩ := kat_tups rowAt
    refine kat_kind (T := .type "int") kt (by omega) (fun v hv => ?_) (by decide) ?_
    · obtain ⟨i, t, rfl⟩ := hf v hv
      exact Looks.now
    have n1 : 1 ≤ (ps.map fun a => Value.ref a.1).length := by omega
    refine KOK.wp (c := cf fun i => rk (ps.map (·.2)) ((ps.map (·.2)).getD i [])) (fun i j C hi hj hC => ?_) (fun pp hp => ?_) _ (sort_ok (f := fun i => rk (ps.map (·.2)) ((ps.map (·.2)).getD i [])) n1)
    · have hi' : i < ps.length := by omega
      have hj' : j < ps.length := by omega
      obtain ⟨⟨o, items, n, ho, hc, hd, hv⟩, hn⟩ := rowAt ps[i] (List.getElem_mem hi')
      obtain ⟨⟨o', items', n', ho', hc', hd', hv'⟩, hn'⟩ := rowAt ps[j] (List.getElem_mem hj')
      unfold kas_ask
      have ei : (ps.map fun a => Value.ref a.1).getD i Value.none = .ref ps[i].1 := by simp [hi']
      have ej : (ps.map fun a => Value.ref a.1).getD j Value.none = .ref ps[j].1 := by simp [hj']
      rw [ei, ej]
      refine kat_lt ho hd ho' hd' (vals_lex hv hv' (by simp) ?_)
      have e : cf (fun i => rk (ps.map (·.2)) ((ps.map (·.2)).getD i [])) i j = lx ps[i].2 ps[j].2 := by
        unfold cf
        have e1 : (ps.map (·.2)).getD i [] = ps[i].2 := by simp [hi']
        have e2 : (ps.map (·.2)).getD j [] = ps[j].2 := by simp [hj']
        simp only [e1, e2]
        exact rk_lt (List.mem_map.mpr ⟨ps[i], List.getElem_mem hi', rfl⟩)
      rw [e] at hC
      exact hC
    · obtain ⟨pm, up⟩ := hp
      refine KasFin.intro F' N' (UpdF.head fun x hx => Nat.ne_of_lt (lt x hx)) fun h2' c F2 N2 => ?_
      have pl : pp.toList.Perm (List.range ps.length) := by
        have := pm.toList
        rw [hlen] at this
        simpa using this
      have eo : (pp.toList.map fun i => (ps.map fun a => Value.ref a.1).getD i Value.none) = (pp.toList.map fun i => ps.getD i (0, [])).map fun a => Value.ref a.1 := by
        rw [List.map_map]
        refine List.map_congr_left fun i hi => ?_
        have hi' : i < ps.length := List.mem_range.mp (pl.mem_iff.mp hi)
        simp [hi']
      have perm : (pp.toList.map fun i => ps.getD i (0, [])).Perm ps := by
        have := pl.map fun i => ps.getD i (0, [])
        rwa [range_map] at this
      rw [eo] at N2
      have hzz : ((pp.toList.map fun i => ps.getD i (0, [])).map fun a => V.ref a.1).length ≤ sizeLine := by
        rw [List.length_map, perm.length_eq, sizeLine_eq]; omega
      obtain ⟨I2, hD⟩ := I.sortedTo F F2 N2 lt (vals_of_refs _) hzz
      refine ⟨.ref D, _, I2, rfl, q D _ hD perm ?_⟩
      rw [List.pairwise_iff_getElem]
      intro i j hi hj hij
      simp only [List.length_map, Array.length_toList] at hi hj
      simp only [List.getElem_map, Array.getElem_toList]
      have hn : pp.size = ps.length := by rw [pm.size]; exact hlen
      have key := up i j (Nat.le_of_lt hij) (by omega)
      have a1 : pp[i] < ps.length := List.mem_range.mp (pl.mem_iff.mp (by simp))
      have a2 : pp[j] < ps.length := List.mem_range.mp (pl.mem_iff.mp (by simp))
      unfold g at'  at key
      simp only [hi, hj, getElem?_pos, Option.getD_some] at key
      have e1 : (ps.map (·.2)).getD pp[i] [] = ps[pp[i]].2 := by simp [a1]
      have e2 : (ps.map (·.2)).getD pp[j] [] = ps[pp[j]].2 := by simp [a2]
      rw [e1, e2] at key
      have e3 : ps.getD pp[i] (0, []) = ps[pp[i]] := by simp [a1]
      have e4 : ps.getD pp[j] (0, []) = ps[pp[j]] := by simp [a2]
      rw [e3, e4]
      have := rk_lt (rs := ps.map (·.2)) (a := ps[pp[j]].2) (b := ps[pp[i]].2) (List.mem_map.mpr ⟨_, List.getElem_mem a2, rfl⟩)
      rw [← this]
      simp only [decide_eq_false_iff_not]
      omega
end
end L2
set_option Elab.async false
set_option linter.all false
set_option maxRecDepth 100000
set_option maxHeartbeats 4000000
namespace L2
open PySem PySem.Spec PyProof.Rows
def notStar : Expr → Bool
  | .Starred _ _ => false
  | _ => true
theorem star_cons {e : Expr} {es : List Expr} {env : Env} (h : notStar e = true) : starEach (e :: es) env = (false, eval e env) :: starEach es env := by
  cases e <;> first | rfl | cases h
@[irreducible] def PA2 (X : Cx) (es : List Expr) (t : TA) : Prop := PA X es t
theorem pa_out {X : Cx} {es : List Expr} {t : TA} (h : PA2 X es t) : PA X es t := by unfold PA2 at h; exact h
theorem pa_in {X : Cx} {es : List Expr} {t : TA} (h : PA X es t) : PA2 X es t := by unfold PA2; exact h
theorem pa_n {X : Cx} : PA2 X [] tNil := pa_in pa_nil
theorem pa_c {X : Cx} {e : Expr} {es : List Expr} {te : TE} {t : TA} (ha : PE X e te) (hr : PA2 X es t) (hn : notStar e = true) : PA2 X (e :: es) (tCons te t) := pa_in (pa_cons ha (pa_out hr) (star_cons hn))
@[irreducible] def PSs2 (X : Cx) (es : List Stmt) (t : TS) : Prop := PSs X es t
theorem bl_out {X : Cx} {es : List Stmt} {t : TS} (h : PSs2 X es t) : PSs X es t := by unfold PSs2 at h; exact h
theorem bl_in {X : Cx} {es : List Stmt} {t : TS} (h : PSs X es t) : PSs2 X es t := by unfold PSs2; exact h
theorem bl_1 {X : Cx} {a : Stmt} {t : TS} (h : PS X a t) : PSs2 X [a] t := bl_in (pss_one h)
theorem bl_c {X : Cx} {a b : Stmt} {rest : List Stmt} {t u : TS} (h : PS X a t) (hr : PSs2 X (b :: rest) u) : PSs2 X (a :: b :: rest) (tSeq t u) := bl_in (pss_cons h (bl_out hr))
end L2
namespace L2
open PySem PySem.Spec PyProof.Rows
section
variable {K : PySem.W.Frag} {a : Addr} {xs : List V} {n : Nat} {caps : List Nat} {g : TG} {tc : TT} {te : TE} {σ : St} {H : Hp} {Qf : Addr → Hp → List V → Prop}
theorem comp_of {J : It} (Pv : Nat → St → List V → Hp → Prop) (len : Nat) (h0 : Pv 0 (tau0 n caps σ) [] H) (hn : len ≤ 1000) (hl : ∀ i τ acc H, Pv i τ acc H → acc.length ≤ i)
    (hgo : ∀ i τ acc H, i < len → Pv i τ acc H → J.go i H) (hstop : ∀ τ acc H, Pv len τ acc H → J.stop len H)
    (hs : ∀ i τ acc H (C : St → List V → Hp → Prop), i < len → Pv i τ acc H → (∀ τ acc H, Pv (i + 1) τ acc H → C τ acc H) → ∀ x H', J.yld i H x H' → g x τ H' fun τ2 H2 => tc τ2 H2 fun b H3 => if b = true then te τ2 H3 fun y H4 => C τ2 (acc ++ [y]) H4 else C τ2 acc H3)
    (hd : ∀ τ acc H, Pv len τ acc H → ∀ p, H p = none → Qf p H acc) :
    ∃ W : Nat → Nat → St → List V → Hp → Prop, (∃ m, W 0 m (tau0 n caps σ) [] H) ∧ ∀ i m τ acc H, W i m τ acc H →
      (J.stop i H ∧ acc.length ≤ sizeLine ∧ ∀ p, H p = none → Qf p H acc) ∨
      (J.go i H ∧ acc.length < sizeLine ∧ ∀ x H', J.yld i H x H' → g x τ H' fun τ2 H2 => tc τ2 H2 fun b H3 => if b = true then te τ2 H3 fun y H4 => ∃ m', m' < m ∧ W (i + 1) m' τ2 (acc ++ [y]) H4 else ∃ m', m' < m ∧ W (i + 1) m' τ2 acc H3) := by
  have line : 1001 ≤ sizeLine := by rw [sizeLine_eq]; decide
  refine ⟨fun i m τ acc H => m = len - i ∧ i ≤ len ∧ Pv i τ acc H, ⟨len, by simp, Nat.zero_le _, h0⟩, ?_⟩
  rintro i m τ acc H ⟨rfl, hi, p⟩
  have q := hl i τ acc H p
  by_cases hlt : i < len
  · exact .inr ⟨hgo i τ acc H hlt p, by omega, fun x H' y => hs i τ acc H (fun τ acc H => ∃ m', m' < len - i ∧ m' = len - (i + 1) ∧ i + 1 ≤ len ∧ Pv (i + 1) τ acc H) hlt p (fun τ acc H p' => ⟨len - (i + 1), by omega, rfl, hlt, p'⟩) x H' y⟩
  · have e : i = len := by omega
    subst e
    exact .inl ⟨hstop τ acc H p, by omega, hd τ acc H p⟩
theorem comp_tup (Pv : Nat → St → List V → Hp → Prop) (h0 : Pv 0 (tau0 n caps σ) [] H) (hn : xs.length ≤ 1000) (hl : ∀ i τ acc H, Pv i τ acc H → acc.length ≤ i ∧ SqT K H a xs)
    (hs : ∀ i x τ acc H (C : St → List V → Hp → Prop), xs[i]? = some x → Pv i τ acc H → (∀ τ acc H, Pv (i + 1) τ acc H → C τ acc H) → g x τ H fun τ2 H2 => tc τ2 H2 fun b H3 => if b = true then te τ2 H3 fun y H4 => C τ2 (acc ++ [y]) H4 else C τ2 acc H3)
    (hd : ∀ τ acc H, Pv xs.length τ acc H → ∀ p, H p = none → Qf p H acc) :
    ∃ W : Nat → Nat → St → List V → Hp → Prop, (∃ m, W 0 m (tau0 n caps σ) [] H) ∧ ∀ i m τ acc H, W i m τ acc H →
      ((Itt K a).stop i H ∧ acc.length ≤ sizeLine ∧ ∀ p, H p = none → Qf p H acc) ∨
      ((Itt K a).go i H ∧ acc.length < sizeLine ∧ ∀ x H', (Itt K a).yld i H x H' → g x τ H' fun τ2 H2 => tc τ2 H2 fun b H3 => if b = true then te τ2 H3 fun y H4 => ∃ m', m' < m ∧ W (i + 1) m' τ2 (acc ++ [y]) H4 else ∃ m', m' < m ∧ W (i + 1) m' τ2 acc H3) :=
  comp_of (J := Itt K a) Pv xs.length h0 hn (fun i τ acc H p => (hl i τ acc H p).1) (fun i τ acc H hi p => ⟨xs, xs[i], (hl i τ acc H p).2, by simp [hi]⟩) (fun τ acc H p => ⟨xs, (hl _ τ acc H p).2, Nat.le_refl _⟩)
    (fun i τ acc H C hi p c x H' y => by obtain ⟨e, y⟩ := y; subst e; exact hs i x τ acc _ C (y xs (hl i τ acc _ p).2) p c) hd
theorem comp_list (Pv : Nat → St → List V → Hp → Prop) (h0 : Pv 0 (tau0 n caps σ) [] H) (hn : xs.length ≤ 1000) (hl : ∀ i τ acc H, Pv i τ acc H → acc.length ≤ i ∧ SqL K H a xs)
    (hs : ∀ i x τ acc H (C : St → List V → Hp → Prop), xs[i]? = some x → Pv i τ acc H → (∀ τ acc H, Pv (i + 1) τ acc H → C τ acc H) → g x τ H fun τ2 H2 => tc τ2 H2 fun b H3 => if b = true then te τ2 H3 fun y H4 => C τ2 (acc ++ [y]) H4 else C τ2 acc H3)
    (hd : ∀ τ acc H, Pv xs.length τ acc H → ∀ p, H p = none → Qf p H acc) :
    ∃ W : Nat → Nat → St → List V → Hp → Prop, (∃ m, W 0 m (tau0 n caps σ) [] H) ∧ ∀ i m τ acc H, W i m τ acc H →
      ((Itl K a).stop i H ∧ acc.length ≤ sizeLine ∧ ∀ p, H p = none → Qf p H acc) ∨
      ((Itl K a).go i H ∧ acc.length < sizeLine ∧ ∀ x H', (Itl K a).yld i H x H' → g x τ H' fun τ2 H2 => tc τ2 H2 fun b H3 => if b = true then te τ2 H3 fun y H4 => ∃ m', m' < m ∧ W (i + 1) m' τ2 (acc ++ [y]) H4 else ∃ m', m' < m ∧ W (i + 1) m' τ2 acc H3) :=
  comp_of (J := Itl K a) Pv xs.length h0 hn (fun i τ acc H p => (hl i τ acc H p).1) (fun i τ acc H hi p => ⟨xs, xs[i], (hl i τ acc H p).2, by simp [hi]⟩) (fun τ acc H p => ⟨xs, (hl _ τ acc H p).2, Nat.le_refl _⟩)
    (fun i τ acc H C hi p c x H' y => by obtain ⟨e, y⟩ := y; subst e; exact hs i x τ acc _ C (y xs (hl i τ acc _ p).2) p c) hd
theorem comp_enumT (Pv : Nat → St → List V → Hp → Prop) (h0 : Pv 0 (tau0 n caps σ) [] H) (hn : xs.length ≤ 1000) (hl : ∀ i τ acc H, Pv i τ acc H → acc.length ≤ i ∧ SqT K H a xs)
    (hs : ∀ i x q τ acc H (C : St → List V → Hp → Prop), xs[i]? = some x → H q = none → Pv i τ acc H → (∀ τ acc H, Pv (i + 1) τ acc H → C τ acc H) → g (.ref q) τ (upd H q (.tup [.int i, x])) fun τ2 H2 => tc τ2 H2 fun b H3 => if b = true then te τ2 H3 fun y H4 => C τ2 (acc ++ [y]) H4 else C τ2 acc H3)
    (hd : ∀ τ acc H, Pv xs.length τ acc H → ∀ p, H p = none → Qf p H acc) :
    ∃ W : Nat → Nat → St → List V → Hp → Prop, (∃ m, W 0 m (tau0 n caps σ) [] H) ∧ ∀ i m τ acc H, W i m τ acc H →
      ((IteT K a).stop i H ∧ acc.length ≤ sizeLine ∧ ∀ p, H p = none → Qf p H acc) ∨
      ((IteT K a).go i H ∧ acc.length < sizeLine ∧ ∀ x H', (IteT K a).yld i H x H' → g x τ H' fun τ2 H2 => tc τ2 H2 fun b H3 => if b = true then te τ2 H3 fun y H4 => ∃ m', m' < m ∧ W (i + 1) m' τ2 (acc ++ [y]) H4 else ∃ m', m' < m ∧ W (i + 1) m' τ2 acc H3) :=
  comp_of (J := IteT K a) Pv xs.length h0 hn (fun i τ acc H p => (hl i τ acc H p).1) (fun i τ acc H hi p => ⟨xs, xs[i], (hl i τ acc H p).2, by simp [hi]⟩) (fun τ acc H p => ⟨xs, (hl _ τ acc H p).2, Nat.le_refl _⟩)
    (fun i τ acc H C hi p c x H' y => by obtain ⟨q, x', hq, e1, e2, y⟩ := y; subst e1; subst e2; exact hs i x' q τ acc _ C (y xs (hl i τ acc _ p).2) hq p c) hd
theorem for_enumT {tb : TS} {D : Ends} (Pv : Nat → St → Hp → Prop) (h0 : Pv 0 σ H) (hl : ∀ i σ H, i ≤ xs.length → Pv i σ H → SqT K H a xs)
    (hs : ∀ i x q σ H, xs[i]? = some x → H q = none → Pv i σ H → g (.ref q) σ (upd H q (.tup [.int i, x])) fun σ2 H2 => tb { D with nx := Pv (i + 1), ct := Pv (i + 1), bk := D.nx } σ2 H2) (hd : ∀ σ H, Pv xs.length σ H → D.nx σ H) :
    ∃ W : Nat → Nat → St → Hp → Prop, (∃ m, W 0 m σ H) ∧ ∀ i m σ H, W i m σ H →
      ((IteT K a).stop i H ∧ D.nx σ H) ∨ ((IteT K a).go i H ∧ ∃ N : St → Hp → Prop, (∀ σ' H', N σ' H' → ∃ m', m' < m ∧ W (i + 1) m' σ' H') ∧ ∀ x H', (IteT K a).yld i H x H' → g x σ H' fun σ2 H2 => tb { D with nx := N, ct := N, bk := D.nx } σ2 H2) := by
  refine ⟨fun i m σ H => m = xs.length - i ∧ i ≤ xs.length ∧ Pv i σ H, ⟨xs.length, by simp, Nat.zero_le _, h0⟩, ?_⟩
  rintro i m σ H ⟨rfl, hi, p⟩
  have q := hl i σ H hi p
  by_cases hlt : i < xs.length
  · refine .inr ⟨⟨xs, xs[i], q, by simp [hlt]⟩, Pv (i + 1), fun σ' H' p' => ⟨xs.length - (i + 1), by omega, rfl, hlt, p'⟩, fun x H' y => ?_⟩
    obtain ⟨q', x', hq, e1, e2, y⟩ := y
    subst e1; subst e2
    exact hs i x' q' σ _ (y xs q) hq p
  · have e : i = xs.length := by omega
    subst e
    exact .inl ⟨⟨xs, q, Nat.le_refl _⟩, hd σ H p⟩
end
end L2
namespace Sm
open PySem L2 SmSort
def But (p : Addr) (H H' : Hp) : Prop := ∀ b u, b ≠ p → H b = some u → H' b = some u
theorem But.refl (p : Addr) (H : Hp) : But p H H := fun _ _ _ h => h
theorem But.trans {p : Addr} {H H1 H2 : Hp} (a : But p H H1) (b : But p H1 H2) : But p H H2 := fun c u n h => b c u n (a c u n h)
theorem But.set {p : Addr} {H : Hp} {o : HO} : But p H (upd H p o) := fun b u n h => by rw [upd_ne n]; exact h
theorem But.new {p l : Addr} {H : Hp} {o : HO} (h : H l = none) : But p H (upd H l o) := fun b u n e => by rw [upd_ne (ne_of_none e h)]; exact e
def Purse (H : Hp) (p : Addr) : Prop := ∃ a b c : Int, H p = some (.lst [.int a, .int b, .int c])
def Go (p : Addr) (H H' : Hp) : Prop := But p H H' ∧ Purse H' p
theorem Go.trans {p : Addr} {H H1 H2 : Hp} (a : Go p H H1) (b : Go p H1 H2) : Go p H H2 := ⟨a.1.trans b.1, b.2⟩
theorem Go.refl {p : Addr} {H : Hp} (a : Purse H p) : Go p H H := ⟨But.refl p H, a⟩
theorem Purse.new {p l : Addr} {H : Hp} {o : HO} (a : Purse H p) (h : H l = none) : Purse (upd H l o) p := by
  obtain ⟨x, y, z, e⟩ := a
  exact ⟨x, y, z, by rw [upd_ne (ne_of_none e h)]; exact e⟩
theorem Purse.ne {p l : Addr} {H : Hp} (a : Purse H p) (h : H l = none) : l ≠ p := by
  obtain ⟨x, y, z, e⟩ := a
  exact (ne_of_none e h).symm
theorem Go.new {p l : Addr} {H H1 : Hp} {o : HO} (a : Go p H H1) (h : H1 l = none) : Go p H (upd H1 l o) := ⟨a.1.trans (But.new h), a.2.new h⟩
theorem Purse.tup {p t : Addr} {H : Hp} {xs : List V} (a : Purse H p) (h : H t = some (.tup xs)) : t ≠ p := by
  obtain ⟨x, y, z, e⟩ := a
  exact ne_of h e (by intro z; cases z)
def Tups (H H' : Hp) : Prop := ∀ b xs, H b = some (.tup xs) → H' b = some (.tup xs)
theorem Tups.trans {H H1 H2 : Hp} (a : Tups H H1) (b : Tups H1 H2) : Tups H H2 := fun c u h => b c u (a c u h)
theorem Go.tups {p : Addr} {H H' : Hp} (a : Go p H H') (h : Purse H p) : Tups H H' := fun b xs e => a.1 b _ (h.tup e) e
theorem Tups.new {l : Addr} {H : Hp} {o : HO} (h : H l = none) : Tups H (upd H l o) := fun b u e => by rw [upd_ne (ne_of_none e h)]; exact e
theorem Tups.set {l : Addr} {H : Hp} {xs : List V} {o : HO} (h : H l = some (.lst xs)) : Tups H (upd H l o) := fun b u e => by rw [upd_ne (ne_of e h (by intro z; cases z))]; exact e
theorem Tups.same {H H' : Hp} (h : Same H H') : Tups H H' := fun b u e => h b _ e
structure M4 where
  lo : Int
  hi : Int
  t : Int
  m : Int
def M4.vs (r : M4) : List V := [.int r.lo, .int r.hi, .int r.t, .int r.m]
def apart (a b : M4) : Prop := a.lo ≠ b.lo ∧ a.lo ≠ b.hi ∧ a.hi ≠ b.lo ∧ a.hi ≠ b.hi
structure Good (w : Int) (ms : List M4) : Prop where
  few : ms.length ≤ 60
  each : ∀ r ∈ ms, 0 ≤ r.lo ∧ r.lo < r.hi ∧ r.hi < w ∧ 1 ≤ r.t ∧ r.t ≤ 1000000000 ∧ 1 ≤ r.m ∧ r.m ≤ 99
  order : ms.Pairwise fun a b => a.t < b.t ∨ (a.t = b.t ∧ a.lo < b.lo ∧ apart a b)
def RowsAt (H : Hp) (ps : List (Addr × M4)) : Prop := ∀ a ∈ ps, H a.1 = some (.tup a.2.vs)
structure BookAt (H : Hp) (b : Addr) (rooms : List Int) (tr tm : Addr) (ps : List (Addr × M4)) : Prop where
  book : H b = some (.tup [.ref tr, .ref tm])
  rooms : H tr = some (.tup (rooms.map V.int))
  meets : H tm = some (.tup (ps.map fun a => V.ref a.1))
  rows : RowsAt H ps
theorem RowsAt.tups {H H' : Hp} {ps : List (Addr × M4)} (a : RowsAt H ps) (t : Tups H H') : RowsAt H' ps := fun x hx => t _ _ (a x hx)
theorem BookAt.tups {H H' : Hp} {b tr tm : Addr} {rooms : List Int} {ps : List (Addr × M4)} (a : BookAt H b rooms tr tm ps) (t : Tups H H') : BookAt H' b rooms tr tm ps :=
  ⟨t _ _ a.book, t _ _ a.rooms, t _ _ a.meets, a.rows.tups t⟩
def spLaw (K : PySem.W.Frag) : Sp := fun vs H Q _ => ∃ (a : Addr) (ns : List Int), vs = [.ref a] ∧ SqL K H a (ns.map V.int) ∧ ns.length ≤ 63 ∧ ∀ H', Q (.bl true) H'
def spPurse (K : PySem.W.Frag) : Sp := fun vs H Q _ => ∃ (a : Addr) (ns : List Int) (k : Nat), vs = [.ref a, .int k] ∧ SqL K H a (ns.map V.int) ∧ k < 1000 ∧ ∀ p H', H p = none → Purse H' p → Same H H' → Q (.ref p) H'
def spTake : Sp := fun vs H Q _ => ∃ p n, vs = [.ref p, .int n] ∧ 0 < n ∧ n < 2 ^ 200 ∧ Purse H p ∧ ∀ d H', 0 ≤ d → d < n → Go p H H' → Q (.int d) H'
def spFar : Sp := fun vs H Q _ => ∃ p, vs = [.ref p] ∧ Purse H p ∧ ∀ d H', 0 ≤ d → d ≤ 1000000000 → Go p H H' → Q (.int d) H'
def spRooms : Sp := fun vs H Q _ => ∃ p, ∃ n : Nat, vs = [.ref p, .int n] ∧ n ≤ 1000 ∧ Purse H p ∧ ∀ (t : Addr) (rooms : List Int) (H' : Hp), Go p H H' → H' t = some (.tup (rooms.map V.int)) → rooms.length = n → (∀ r ∈ rooms, (0 : Int) ≤ r ∧ r ≤ 99) → Q (.ref t) H'
def spStep : Sp := fun vs H Q _ => ∃ p, vs = [.ref p] ∧ Purse H p ∧ ∀ d H', 0 ≤ d → d ≤ 16000000 → Go p H H' → Q (.int d) H'
def spMeetings : Sp := fun vs H Q _ => ∃ p, ∃ w : Int, ∃ n : Nat, vs = [.ref p, .int w, .int n] ∧ n ≤ 60 ∧ w < 1000 ∧ (n = 0 ∨ 2 ≤ w) ∧ Purse H p ∧
  ∀ (t : Addr) (ps : List (Addr × M4)) (H' : Hp), Go p H H' → H' t = some (.tup (ps.map fun a => V.ref a.1)) → RowsAt H' ps → Good w (ps.map (·.2)) → ps.length = n → Q (.ref t) H'
def spBook : Sp := fun vs H Q _ => ∃ p, ∃ a : Int, ∃ n : Nat, vs = [.ref p, .int a, .int n] ∧ 1 ≤ a ∧ a ≤ 100 ∧ n ≤ 60 ∧ Purse H p ∧
  ∀ (b : Addr) (rooms : List Int) (tr tm : Addr) (ps : List (Addr × M4)) (H' : Hp), Go p H H' → BookAt H' b rooms tr tm ps → 1 ≤ rooms.length → (rooms.length : Int) ≤ a → (∀ r ∈ rooms, (0 : Int) ≤ r ∧ r ≤ 99) → Good rooms.length (ps.map (·.2)) → ps.length ≤ n → Q (.ref b) H'
theorem iteD {c A B : Prop} [Decidable c] (h1 : c → A) (h2 : ¬ c → B) : if decide c = true then A else B := by
  by_cases h : c
  · rw [if_pos (decide_eq_true h)]; exact h1 h
  · rw [if_neg (by simpa using h)]; exact h2 h
theorem iteB0 {c : Bool} {A B : Prop} (hc : c = false) (h : B) : if c = true then A else B := by
  rw [if_neg (by rw [hc]; exact Bool.false_ne_true)]; exact h
theorem iteB1 {c : Bool} {A B : Prop} (hc : c = true) (h : A) : if c = true then A else B := by
  rw [if_pos hc]; exact h
theorem iteB {c : Bool} {A B : Prop} (h1 : c = true → A) (h2 : c = false → B) : if c = true then A else B := by
  cases c with
  | true => exact h1 rfl
  | false => exact h2 rfl
theorem iteNS2 {c A B : Prop} [Decidable c] (hc : c) (h : B) : if (!decide c) = true then A else B := iteNS hc h
theorem same_new {H : Hp} {p : Addr} {o : HO} (h : H p = none) : Same H (upd H p o) := fun b u e => by
  rw [upd_ne (ne_of_none e h)]; exact e
def M4.row (r : M4) : List Int := [r.t, r.lo, r.hi, r.m]
structure FOk (w when' : Int) (bs : List Int) (fs : List (Addr × M4)) : Prop where
  each : ∀ a ∈ fs, 0 ≤ a.2.lo ∧ a.2.lo < a.2.hi ∧ a.2.hi < w ∧ 1 ≤ a.2.t ∧ a.2.t ≤ when' ∧ 1 ≤ a.2.m ∧ a.2.m ≤ 99
  pw : fs.Pairwise fun a b => a.2.t = b.2.t → apart a.2 b.2
  bz : ∀ a ∈ fs, a.2.t = when' → a.2.lo ∈ bs ∧ a.2.hi ∈ bs
theorem FOk.step {w wh gap one other m : Int} {bs bs' : List Int} {fs : List (Addr × M4)} {a : Addr} (F : FOk w wh bs fs) (h1 : 1 ≤ wh) (g0 : 0 ≤ gap) (o0 : 0 ≤ one) (o1 : one < w) (p0 : 0 ≤ other) (p1 : other < w) (ne : one ≠ other)
    (m0 : 1 ≤ m) (m1 : m ≤ 99) (hg : gap = 0 → one ∉ bs ∧ other ∉ bs) (hb : ∀ x ∈ bs, gap = 0 → x ∈ bs') (hb1 : one ∈ bs') (hb2 : other ∈ bs') :
    FOk w (wh + gap) bs' (fs ++ [(a, ⟨if other < one then other else one, if other > one then other else one, wh + gap, m⟩)]) := by
  refine ⟨fun b hb => ?_, ?_, fun b hm e => ?_⟩
  · rcases List.mem_append.mp hb with h | h
    · obtain ⟨a1, a2, a3, a4, a5, a6, a7⟩ := F.each b h
      exact ⟨a1, a2, a3, a4, by omega, a6, a7⟩
    · cases List.mem_singleton.mp h
      by_cases c : other < one
      · rw [if_pos c, if_neg (by omega)]; exact ⟨p0, c, o1, by show 1 ≤ wh + gap; omega, Int.le_refl _, m0, m1⟩
      · rw [if_neg c, if_pos (by omega)]; exact ⟨o0, by show one < other; omega, p1, by show 1 ≤ wh + gap; omega, Int.le_refl _, m0, m1⟩
  · rw [List.pairwise_append]
    refine ⟨F.pw, List.pairwise_singleton _ _, fun b hb c hc e => ?_⟩
    cases List.mem_singleton.mp hc
    have e' : b.2.t = wh + gap := e
    obtain ⟨a1, a2, a3, a4, a5, a6, a7⟩ := F.each b hb
    have g : gap = 0 := by omega
    obtain ⟨x1, x2⟩ := F.bz b hb (by omega)
    obtain ⟨n1, n2⟩ := hg g
    have q1 : b.2.lo ≠ one := fun z => n1 (z ▸ x1)
    have q2 : b.2.lo ≠ other := fun z => n2 (z ▸ x1)
    have q3 : b.2.hi ≠ one := fun z => n1 (z ▸ x2)
    have q4 : b.2.hi ≠ other := fun z => n2 (z ▸ x2)
    unfold apart
    dsimp only
    by_cases c : other < one
    · rw [if_pos c, if_neg (by omega)]; exact ⟨q2, q1, q4, q3⟩
    · rw [if_neg c, if_pos (by omega)]; exact ⟨q1, q2, q3, q4⟩
  · rcases List.mem_append.mp hm with h | h
    · obtain ⟨a1, a2, a3, a4, a5, a6, a7⟩ := F.each b h
      obtain ⟨x1, x2⟩ := F.bz b h (by omega)
      exact ⟨hb _ x1 (by omega), hb _ x2 (by omega)⟩
    · cases List.mem_singleton.mp h
      by_cases c : other < one
      · rw [if_pos c, if_neg (by omega)]; exact ⟨hb2, hb1⟩
      · rw [if_neg c, if_pos (by omega)]; exact ⟨hb1, hb2⟩
def M4.late (l : Int) (r : M4) : M4 := ⟨r.lo, r.hi, r.t + l, r.m⟩
theorem FOk.good {w wh l : Int} {bs : List Int} {fs qs : List (Addr × M4)} (F : FOk w wh bs fs) (n : fs.length ≤ 60) (l0 : 0 ≤ l) (l1 : fs ≠ [] → wh + l ≤ 1000000000) (p : qs.Perm fs) (s : qs.Pairwise fun a b => lx b.2.row a.2.row = false) :
    Good w (qs.map fun a => a.2.late l) := by
  refine ⟨by rw [List.length_map, p.length_eq]; exact n, fun r hr => ?_, ?_⟩
  · obtain ⟨a, ha, rfl⟩ := List.mem_map.mp hr
    have hm := p.mem_iff.mp ha
    obtain ⟨a1, a2, a3, a4, a5, a6, a7⟩ := F.each a hm
    have := l1 (List.ne_nil_of_mem hm)
    unfold M4.late
    exact ⟨a1, a2, a3, by show 1 ≤ a.2.t + l; omega, by show a.2.t + l ≤ 1000000000; omega, a6, a7⟩
  · rw [List.pairwise_map]
    have ap : qs.Pairwise fun a b => a.2.t = b.2.t → apart a.2 b.2 := (List.Perm.pairwise_iff (fun {x y} h e => by
      obtain ⟨a1, a2, a3, a4⟩ := h e.symm
      exact ⟨a1.symm, a3.symm, a2.symm, a4.symm⟩) p).mpr F.pw
    refine (s.and ap).imp fun {a b} ⟨h1, h2⟩ => ?_
    unfold M4.late
    dsimp only
    unfold M4.row lx at h1
    by_cases e : a.2.t = b.2.t
    · have q := h2 e
      rw [if_pos e.symm] at h1
      unfold lx at h1
      rw [if_neg fun z => q.1 z.symm] at h1
      simp only [decide_eq_false_iff_not] at h1
      refine .inr ⟨by omega, ?_, q⟩
      have := q.1
      omega
    · rw [if_neg fun z => e z.symm] at h1
      simp only [decide_eq_false_iff_not] at h1
      exact .inl (by omega)
def toM4 (r : List Int) : M4 := ⟨r.getD 1 0, r.getD 2 0, r.getD 0 0, r.getD 3 0⟩
theorem rows_back {fs : List (Addr × M4)} {qs : List (Addr × List Int)} (p : qs.Perm (fs.map fun a => (a.1, a.2.row))) (s : qs.Pairwise fun a b => lx b.2 a.2 = false) :
    ∃ rs : List (Addr × M4), rs.Perm fs ∧ (rs.Pairwise fun a b => lx b.2.row a.2.row = false) ∧ qs = rs.map fun a => (a.1, a.2.row) := by
  have e : qs = (qs.map fun a => (a.1, toM4 a.2)).map fun a => (a.1, a.2.row) := by
    rw [List.map_map]
    refine (List.map_id qs).symm.trans (List.map_congr_left fun x hx => ?_)
    obtain ⟨a, _, rfl⟩ := List.mem_map.mp (p.mem_iff.mp hx)
    rfl
  refine ⟨qs.map fun a => (a.1, toM4 a.2), ?_, ?_, e⟩
  · have := p.map fun a => (a.1, toM4 a.2)
    rw [List.map_map] at this
    refine this.trans (.of_eq ?_)
    refine (List.map_congr_left fun x _ => ?_).trans (List.map_id fs)
    rfl
  · rw [e, List.pairwise_map] at s
    exact s
theorem flat_ints (bs : List Int) : (bs.map V.int).all flatV = true := by
  rw [List.all_eq_true]
  intro x hx
  obtain ⟨b, _, rfl⟩ := List.mem_map.mp hx
  rfl
theorem inV_ints {x : Int} {bs : List Int} : inV (.int x) (bs.map V.int) = decide (x ∈ bs) := by
  unfold inV
  induction bs with
  | nil => rfl
  | cons b bs ih =>
    rw [List.map_cons, List.any_cons, ih]
    by_cases h : x = b
    · subst h; simp [eqV]
    · have h' : ¬ b = x := fun z => h z.symm
      simp [eqV, h, h']
def PvM (p lf : Addr) (w : Int) (n : Nat) (H : Hp) (i : Nat) (σ : St) (H3 : Hp) : Prop :=
  ∃ v6 v7 v8 v9 v10 wh lb bs, ∃ fs : List (Addr × M4), σ = [some (.ref p), some (.int w), some (.int n), some (.ref lf), some (.int wh), some (.ref lb), v6, v7, v8, v9, v10, none] ∧
    H3 lf = some (.lst (fs.map fun a => V.ref a.1)) ∧ H3 lb = some (.lst (List.map V.int bs)) ∧ lb ≠ lf ∧ lb ≠ p ∧ (∀ a ∈ fs, H3 a.1 = some (.tup (a.2.row.map V.int))) ∧ FOk w wh bs fs ∧ fs.length = i ∧ bs.length ≤ 2 * i ∧ 1 ≤ wh ∧ wh ≤ 10000000 + 16000000 * i ∧ Go p H H3
theorem PvM.step {p lf lb t : Addr} {w wh gap one other m : Int} {n i : Nat} {H Hx : Hp} {bs bs' : List Int} {fs : List (Addr × M4)} {v6 v7 v8 v9 v10 : Option V} (npf : lf ≠ p) (hlf : H lf = none)
    (F : FOk w wh bs fs) (lenf : fs.length = i) (lenb : bs'.length ≤ 2 * i + 2) (wh1 : 1 ≤ wh) (wh2 : wh ≤ 10000000 + 16000000 * i) (hf : Hx lf = some (.lst (fs.map fun a => V.ref a.1))) (hb : Hx lb = some (.lst (List.map V.int bs'))) (nb : lb ≠ lf) (nbp : lb ≠ p)
    (rows : ∀ a ∈ fs, Hx a.1 = some (.tup (a.2.row.map V.int))) (go : Go p H Hx) (ht : Hx t = none)
    (g0 : 0 ≤ gap) (g1 : gap ≤ 16000000) (o0 : 0 ≤ one) (o1 : one < w) (p0 : 0 ≤ other) (p1 : other < w) (ne : one ≠ other) (m0 : 1 ≤ m) (m1 : m ≤ 99) (hg : gap = 0 → one ∉ bs ∧ other ∉ bs) (hb0 : ∀ x ∈ bs, gap = 0 → x ∈ bs') (hb1 : one ∈ bs') (hb2 : other ∈ bs') :
    PvM p lf w n H (i + 1) [some (.ref p), some (.int w), some (.int n), some (.ref lf), some (.int (wh + gap)), some (.ref lb), v6, v7, v8, v9, v10, none]
      (upd (upd Hx t (.tup [.int (wh + gap), .int (if other < one then other else one), .int (if other > one then other else one), .int m])) lf (.lst ((fs.map fun a => V.ref a.1) ++ [.ref t]))) := by
  have ntf : t ≠ lf := (ne_of_none hf ht).symm
  refine ⟨v6, v7, v8, v9, v10, wh + gap, lb, bs', fs ++ [(t, ⟨if other < one then other else one, if other > one then other else one, wh + gap, m⟩)], rfl, by rw [upd_same, List.map_append]; rfl, ?_, nb, nbp, fun a ha => ?_, F.step wh1 g0 o0 o1 p0 p1 ne m0 m1 hg hb0 hb1 hb2, by rw [List.length_append, lenf]; rfl, by omega, by omega, by omega, fun b u nb e => ?_, ?_⟩
  · rw [upd_ne nb, upd_ne (ne_of_none hb ht)]; exact hb
  · rcases List.mem_append.mp ha with h | h
    · have := rows a h
      rw [upd_ne (ne_of this hf (by intro z; cases z)), upd_ne (ne_of_none this ht)]; exact this
    · cases List.mem_singleton.mp h
      rw [upd_ne ntf, upd_same]; rfl
  · rw [upd_ne (ne_of_none e hlf), upd_ne (ne_of_none (go.1 b u nb e) ht)]; exact go.1 b u nb e
  · have := go.2.new (o := .tup [.int (wh + gap), .int (if other < one then other else one), .int (if other > one then other else one), .int m]) ht
    obtain ⟨x, y, z, e⟩ := this
    exact ⟨x, y, z, by rw [upd_ne npf.symm]; exact e⟩
theorem oth_ok {one x w : Int} (o0 : 0 ≤ one) (o1 : one < w) (x0 : 0 ≤ x) (x1 : x < w - 1) : 0 ≤ (one + 1 + x) % w ∧ (one + 1 + x) % w < w ∧ one ≠ (one + 1 + x) % w := by
  refine ⟨Int.emod_nonneg _ (by omega), Int.emod_lt_of_pos _ (by omega), ?_⟩
  by_cases h : one + 1 + x < w
  · rw [Int.emod_eq_of_lt (by omega) h]; omega
  · have e : (one + 1 + x) % w = (one + 1 + x - w) % w := by
      have : one + 1 + x = (one + 1 + x - w) + w := by omega
      rw [this, Int.add_emod_right]; congr 1; omega
    rw [e, Int.emod_eq_of_lt (by omega) (by omega)]; omega
theorem Go.same {p : Addr} {H H1 H2 : Hp} (a : Go p H H1) (s : Same H1 H2) : Go p H H2 := ⟨fun b u n e => s b u (a.1 b u n e), by obtain ⟨x, y, z, e⟩ := a.2; exact ⟨x, y, z, s _ _ e⟩⟩
theorem map_get {α : Type} {f : α → V} {l : List α} {i : Nat} {x : V} (h : (l.map f)[i]? = some x) : ∃ r, l[i]? = some r ∧ x = f r := by
  rw [List.getElem?_map] at h
  cases e : l[i]? with
  | none => rw [e] at h; cases h
  | some r => rw [e] at h; exact ⟨r, rfl, (Option.some.inj h).symm⟩
theorem take_snoc {α : Type} {l : List α} {i : Nat} {r : α} (h : l[i]? = some r) : l.take (i + 1) = l.take i ++ [r] := by
  rw [List.take_add_one, h]; rfl
theorem But.same {p : Addr} {H H1 H2 : Hp} (hp : H p = none) (s : Same H H1) (g : But p H1 H2) : Same H H2 := fun b u e => g b u (ne_of_none e hp) (s b u e)
theorem Same.put {l : Addr} {H H' : Hp} {o : HO} (h : H l = none) (s : Same H H') : Same H (upd H' l o) := fun b u e => by rw [upd_ne (ne_of_none e h)]; exact s b u e
theorem BookAt.same {H H' : Hp} {b tr tm : Addr} {rooms : List Int} {ps : List (Addr × M4)} (a : BookAt H b rooms tr tm ps) (t : Same H H') : BookAt H' b rooms tr tm ps := a.tups (Tups.same t)
theorem tyS_lst {H : Hp} {l : Addr} {xs : List V} (h : H l = some (.lst xs)) : tyS H (.ref l) = some "list" := by simp only [tyS, h]
def spWhole : Sp := fun vs H Q _ => ∃ x t, vs = [x] ∧ tyS H x = some t ∧ Q (.bl (t == "int")) H
def inB (lo hi : Int) : V → Bool
  | .int i => decide (lo ≤ i) && decide (i ≤ hi)
  | _ => false
def spWithin : Sp := fun vs H Q _ => ∃ x t lo hi, vs = [x, .int lo, .int hi] ∧ tyS H x = some t ∧ Q (.bl (inB lo hi x)) H
theorem tyS_int {H : Hp} {x : V} (h : tyS H x = some "int") : ∃ i, x = .int i := by
  cases x with
  | int i => exact ⟨i, rfl⟩
  | ref a =>
    unfold tyS at h
    dsimp only at h
    split at h <;> simp at h
  | _ => simp [tyS] at h
theorem inB_no {H : Hp} {x : V} {t : String} {lo hi : Int} (h : tyS H x = some t) (n : ¬ t = "int") : inB lo hi x = false := by
  cases x with
  | int i => simp [tyS] at h; exact absurd h.symm n
  | _ => rfl
def hasW (w : Int) (r : M4) : Bool := decide (r.lo = w) || decide (r.hi = w)
def numsTo (ms : List M4) (w : Int) : Nat → List Int
  | 0 => []
  | i + 1 => numsTo ms w i ++ (if (ms[i]?).any (hasW w) = true then [(i : Int)] else [])
theorem numsTo_len (ms : List M4) (w : Int) : ∀ i, (numsTo ms w i).length ≤ i
  | 0 => Nat.le_refl _
  | i + 1 => by
    have := numsTo_len ms w i
    unfold numsTo
    rw [List.length_append]
    split <;> simp <;> omega
theorem numsTo_yes {ms : List M4} {w : Int} {i : Nat} {r : M4} (hm : ms[i]? = some r) (h : hasW w r = true) : numsTo ms w (i + 1) = numsTo ms w i ++ [(i : Int)] := by
  conv => lhs; unfold numsTo
  rw [hm]
  simp [h]
theorem numsTo_no {ms : List M4} {w : Int} {i : Nat} {r : M4} (hm : ms[i]? = some r) (h : hasW w r = false) : numsTo ms w (i + 1) = numsTo ms w i := by
  conv => lhs; unfold numsTo
  rw [hm]
  simp [h]
theorem inV_two {w a b : Int} : inV (.int w) [.int a, .int b] = (decide (a = w) || decide (b = w)) := by
  simp only [inV, eqV, List.any_cons, List.any_nil, Bool.or_false]
  rfl
def spMeetingsOf : Sp := fun vs H Q _ => ∃ b w rooms tr tm ps, vs = [.ref b, .int w] ∧ BookAt H b rooms tr tm ps ∧ ps.length ≤ 1000 ∧ ∀ l H', H l = none → Same H H' → H' l = some (.lst ((numsTo (ps.map (·.2)) w ps.length).map V.int)) → Q (.ref l) H'
end Sm
namespace Sm
open PySem L2 SmSort
theorem Good.len {w : Int} {ps : List (Addr × M4)} (g : Good w (ps.map (·.2))) : ps.length ≤ 60 := by simpa using g.few
theorem Good.at {w : Int} {ps : List (Addr × M4)} (g : Good w (ps.map (·.2))) {r : Addr × M4} (h : r ∈ ps) : 0 ≤ r.2.lo ∧ r.2.lo < r.2.hi ∧ r.2.hi < w ∧ 1 ≤ r.2.t ∧ r.2.t ≤ 1000000000 ∧ 1 ≤ r.2.m ∧ r.2.m ≤ 99 := g.each _ (List.mem_map.mpr ⟨r, h, rfl⟩)
end Sm
namespace L2
open PySem PySem.Spec PyProof.Rows
end L2
set_option Elab.async false
set_option linter.all false
set_option maxRecDepth 100000
set_option maxHeartbeats 4000000
namespace L2
open PySem PySem.Spec PyProof.Rows
section
variable {X : Cx}
def oV : Option Int → V
  | none => .non
  | some i => .int i
end
end L2
namespace Sm
open PySem L2 SmSort
theorem tyS_tup {H : Hp} {l : Addr} {xs : List V} (h : H l = some (.tup xs)) : tyS H (.ref l) = some "tuple" := by simp only [tyS, h]
theorem tyS_same {H H' : Hp} {x : V} {t : String} (s : Same H H') (h : tyS H x = some t) : tyS H' x = some t := by
  cases x with
  | ref a =>
    unfold tyS at h ⊢
    dsimp only at h ⊢
    cases e : H a with
    | none => rw [e] at h; simp at h
    | some o => rw [e] at h; rw [s a o e]; exact h
  | _ => exact h
theorem ixN_nat {n k : Nat} (h : k < n) : ixN n (k : Int) = some k := by
  unfold ixN
  rw [if_pos (by omega), if_pos (by omega)]; simp
end Sm
set_option Elab.async false
set_option linter.all false
set_option maxRecDepth 100000
set_option maxHeartbeats 4000000
namespace L2
open PySem PySem.Spec PyProof.Rows
theorem pick_to {α : Type} (l : List α) : ∀ n, n ≤ l.length → (List.range n).filterMap (fun k => l[k]?) = l.take n
  | 0, _ => by simp
  | n + 1, h => by
    have hn : n < l.length := h
    rw [List.range_succ, List.filterMap_append, pick_to l n (by omega), List.take_add_one]
    simp [hn]
theorem fm_congr {α β : Type} {f g : α → Option β} : ∀ {l : List α}, (∀ x ∈ l, f x = g x) → l.filterMap f = l.filterMap g
  | [], _ => rfl
  | x :: l, h => by
    rw [List.filterMap_cons, List.filterMap_cons, h x (.head _), fm_congr fun y hy => h y (.tail _ hy)]
theorem rev_pick {α : Type} (l : List α) : ((List.range l.length).map fun k : Nat => ((l.length : Int) - 1 + -1 * (k : Int)).toNat).filterMap (fun j => l.toArray[j]?) = l.reverse := by
  rw [List.filterMap_map]
  have h := pick_to l.reverse l.length (by simp)
  rw [show l.reverse.take l.length = l.reverse from by rw [← List.length_reverse]; exact List.take_length] at h
  rw [← h]
  refine fm_congr fun k hk => ?_
  have hk' := List.mem_range.mp hk
  have e : ((l.length : Int) - 1 + -1 * (k : Int)).toNat = l.length - 1 - k := by omega
  show l.toArray[((l.length : Int) - 1 + -1 * (k : Int)).toNat]? = _
  rw [e, List.getElem?_reverse hk']
  simp
theorem slicePick_rev (its : List Value) : slicePick its.toArray none none (some (-1)) = its.reverse.toArray := by
  unfold slicePick
  have e : sliceBounds none none (some (-1)) its.toArray.size = ((its.length : Int) - 1, -1, -1) := by
    unfold sliceBounds
    simp
  rw [e]
  have r : sliceRange ((its.length : Int) - 1) (-1) (-1) = (List.range its.length).map fun k : Nat => ((its.length : Int) - 1 + -1 * (k : Int)).toNat := by
    unfold sliceRange
    have c : (if (-1 : Int) > 0 then (if (its.length : Int) - 1 < -1 then (-1 - ((its.length : Int) - 1) + -1 - 1) / -1 else 0) else (if (its.length : Int) - 1 > -1 then ((its.length : Int) - 1 - -1 - -1 - 1) / (- -1) else 0)) = (its.length : Int) := by
      rw [if_neg (by decide)]
      have e1 : (- -1 : Int) = 1 := by decide
      rw [e1, Int.ediv_one]
      split <;> omega
    simp only [c]
    simp
  rw [r]
  exact congrArg List.toArray (rev_pick its)
section
variable {X : Cx} {e : Expr} {te : TE} {pos p2 p3 p4 : Pos} {j : Nat}
def tRevL (K : PySem.W.Frag) (te : TE) : TE := fun σ H Q => te σ H fun x H1 => ∃ a xs, x = .ref a ∧ SqL K H1 a xs ∧ ∀ p, H1 p = none → Q (.ref p) (upd H1 p (.lst xs.reverse))
theorem pe_revL {K : PySem.W.Frag} (hK : X.K = K) (he : PE X e te) : PE X (.Subscript e (.Slice none none (some (.UnaryOp .USub (.Constant (.int 1) j p4) p3)) p2) pos) (tRevL K te) := by
  subst hK
  intro pins s σ H Q I h
  refine Subscript_ (thn (he pins s σ H _ I h) fun v s1 ⟨x, H1, I1, r1, q1⟩ => ?_)
  have st : PO X (some (.UnaryOp .USub (.Constant (.int 1) j p4) p3)) (tPart (tUn (rU fun i => .int (-i)) (tC (.int 1)))) := po_some (pe_un un_neg pe_int)
  refine wpAny_Slice ?_
  rw [evalPart_none]
  refine wpAny_pure (wpAny_pure ?_)
  refine thn (st pins s1 σ H1 (fun o H' => o = some (-1) ∧ H' = H1) I1 ⟨1, rfl, -1, rfl, rfl, rfl⟩) fun vs s3 h3 => ?_
  obtain ⟨o, H', I3, ps, rfl, rfl⟩ := h3
  have I4 : Inv X pins σ H' { s3 with heap := s3.heap.push { cls := .type "slice", data := .fields #[.none, .none, vs] } } := I3.kept (t' := s3.toks) fun b ob q => Heap.get?_push_of_some _ q
  obtain ⟨a, xs, rfl, hx, q⟩ := q1
  cases r1
  obtain ⟨its, r, ht, hz⟩ := I4.list hx
  have hlen := r.length
  show wpAny (model X.prog X.w) X.A (subscriptTail e (.Slice none none (some (.UnaryOp .USub (.Constant (.int 1) j p4) p3)) p2) (.ref a) (.ref s3.heap.objs.size)) (EP X pins σ Q) X.xe { s3 with heap := s3.heap.push { cls := .type "slice", data := .fields #[.none, .none, vs] } }
  refine tail_any (ops := [.ref a, .ref s3.heap.objs.size]) ht.isList.typeIs slot_list_getitem.lookup ?_ (by with_unfolding_all rfl)
  refine wpAny_getItem_list_slice ht.isList (Heap.IsSliceOf.new ..) .none .none ps (by simp) ?_ (by rw [List.size_toArray] <;> omega)
  rw [slicePick_rev]
  refine ⟨.ref _, _, I4.laid (t' := s3.toks) (o := .lst xs.reverse) (fun b ob q => Heap.get?_push_of_some _ q) (Nat.le_refl _) ?_, rfl, q _ (I4.hok.fresh (Nat.le_refl _))⟩
  exact ⟨by rw [List.length_reverse]; exact hz, _, 0, r.reverse, Heap.get?_push_size _ rfl⟩
end
end L2
set_option Elab.async false
set_option linter.all false
set_option maxRecDepth 100000
set_option maxHeartbeats 4000000
namespace Sm
open PySem L2 SmSort
abbrev Fn := Nat → Option Int
def put (f : Fn) (k : Nat) (x : Option Int) : Fn := fun i => if i = k then x else f i
theorem put_same {f : Fn} {k : Nat} {x : Option Int} : put f k x k = x := by unfold put; rw [if_pos rfl]
theorem put_ne {f : Fn} {k i : Nat} {x : Option Int} (h : i ≠ k) : put f k x i = f i := by unfold put; rw [if_neg h]
def lone (k : Nat) (x : Int) : Fn := fun i => if i = k then some x else none
def below (o : Option Int) (t : Int) : Bool := match o with
  | some y => decide (y < t)
  | none => false
theorem below_iff {o : Option Int} {t : Int} : below o t = true ↔ ∃ y, o = some y ∧ y < t := by
  cases o <;> simp [below]
def upto (o : Option Int) (t : Int) : Bool := match o with
  | some y => decide (y ≤ t)
  | none => false
structure W3 where
  g : Nat
  o : Nat
  t : Int
def two (m : M4) : List W3 := [⟨m.lo.toNat, m.hi.toNat, m.t⟩, ⟨m.hi.toNat, m.lo.toNat, m.t⟩]
def ways2 (ms : List M4) : List W3 := ms.flatMap two
def fstep (st : Fn) (x : W3) : Fn := if st x.o = none ∧ below (st x.g) x.t = true then put st x.o (some x.t) else st
def fwd (ms : List M4) (st : Fn) : Fn := (ways2 ms).foldl fstep st
theorem fstep_some {st : Fn} {x : W3} {i : Nat} {y : Int} (h : st i = some y) : fstep st x i = some y := by
  unfold fstep
  split
  · rename_i c
    by_cases e : i = x.o
    · rw [e, c.1] at h; cases h
    · rw [put_ne e]; exact h
  · exact h
theorem fstep_inv {st : Fn} {x : W3} (hs : ∀ i y, st i = some y → y ≤ x.t ∨ ∀ j, st j ≠ none → j = i) (hne : x.g ≠ x.o) : ∀ i y, fstep st x i = some y → y ≤ x.t ∨ ∀ j, fstep st x j ≠ none → j = i := by
  unfold fstep
  split
  · rename_i c
    obtain ⟨z, hz, zt⟩ := below_iff.mp c.2
    intro i y h
    by_cases e : i = x.o
    · rw [e, put_same] at h; cases h; exact .inl (Int.le_refl _)
    · rw [put_ne e] at h
      rcases hs i y h with q | q
      · exact .inl q
      · have : x.g = i := q x.g (by rw [hz]; simp)
        rw [← this, hz] at h; cases h
        exact .inl (by omega)
  · exact hs
def Ord (t : Int) (ms : List M4) : Prop := (∀ m ∈ ms, t ≤ m.t ∧ m.lo.toNat ≠ m.hi.toNat) ∧ ms.Pairwise fun a b => a.t ≤ b.t
theorem Good.ord {w : Int} {ms : List M4} (g : Good w ms) : Ord 1 ms := by
  refine ⟨fun m hm => ?_, g.order.imp fun h => ?_⟩
  · obtain ⟨a1, a2, a3, a4, _⟩ := g.each m hm
    exact ⟨a4, by omega⟩
  · rcases h with h | h
    · omega
    · omega
def rep (n : Nat) (f : Fn) : List (Option Int) := (List.range n).map f
theorem rep_len (n : Nat) (f : Fn) : (rep n f).length = n := by simp [rep]
theorem rep_get {n k : Nat} {f : Fn} (h : k < n) : (rep n f)[k]? = some (f k) := by simp [rep, h]
theorem rep_at {n k : Nat} {f : Fn} (h : k < n) : ((rep n f).map oV)[k]? = some (oV (f k)) := by rw [List.getElem?_map, rep_get h]; rfl
theorem rep_set {n k : Nat} {f : Fn} {x : Option Int} (h : k < n) : (rep n f).set k x = rep n (put f k x) := by
  apply List.ext_getElem?
  intro i
  rw [List.getElem?_set]
  by_cases e : k = i
  · subst e
    rw [if_pos rfl, if_pos (by rw [rep_len]; exact h), rep_get h, put_same]
  · rw [if_neg e]
    by_cases hi : i < n
    · rw [rep_get hi, rep_get hi, put_ne fun z => e z.symm]
    · rw [List.getElem?_eq_none (by rw [rep_len]; omega), List.getElem?_eq_none (by rw [rep_len]; omega)]
structure W4 where
  n : Nat
  w : W3
def W4.vs (x : W4) : List V := [.int x.n, .int x.w.g, .int x.w.o, .int x.w.t]
def waysN (ms : List M4) : Nat → List W4
  | 0 => []
  | i + 1 => waysN ms i ++ (match ms[i]? with
    | some m => [⟨i, ⟨m.lo.toNat, m.hi.toNat, m.t⟩⟩, ⟨i, ⟨m.hi.toNat, m.lo.toNat, m.t⟩⟩]
    | none => [])
theorem waysN_succ {ms : List M4} {i : Nat} {m : M4} (h : ms[i]? = some m) : waysN ms (i + 1) = waysN ms i ++ [⟨i, ⟨m.lo.toNat, m.hi.toNat, m.t⟩⟩, ⟨i, ⟨m.hi.toNat, m.lo.toNat, m.t⟩⟩] := by
  conv => lhs; unfold waysN
  rw [h]
theorem waysN_take (ms : List M4) : ∀ i, i ≤ ms.length → (waysN ms i).map (·.w) = ways2 (ms.take i)
  | 0, _ => by simp [waysN, ways2]
  | i + 1, h => by
    have hi : i < ms.length := h
    have e : ms[i]? = some ms[i] := by simp [hi]
    rw [waysN_succ e, List.map_append, waysN_take ms i (by omega), take_snoc e]
    unfold ways2
    rw [List.flatMap_append]
    rfl
theorem waysN_all (ms : List M4) : (waysN ms ms.length).map (·.w) = ways2 ms := by rw [waysN_take ms _ (Nat.le_refl _), List.take_length]
theorem ways2_len (ms : List M4) : (ways2 ms).length = 2 * ms.length := by
  induction ms with
  | nil => rfl
  | cons m ms ih =>
    have : ways2 (m :: ms) = two m ++ ways2 ms := by unfold ways2; rw [List.flatMap_cons]
    rw [this, List.length_append, ih, List.length_cons]
    show 2 + _ = _
    omega
theorem ways2_mem {w : Int} {ms : List M4} (g : Good w ms) {x : W3} (h : x ∈ ways2 ms) : (x.g : Int) < w ∧ (x.o : Int) < w ∧ 1 ≤ x.t ∧ x.t ≤ 1000000000 ∧ x.g ≠ x.o := by
  unfold ways2 at h
  obtain ⟨m, hm, hx⟩ := List.mem_flatMap.mp h
  obtain ⟨a1, a2, a3, a4, a5, _⟩ := g.each m hm
  unfold two at hx
  simp only [List.mem_cons, List.not_mem_nil, or_false] at hx
  rcases hx with rfl | rfl
  · exact ⟨by show (m.lo.toNat : Int) < w; omega, by show (m.hi.toNat : Int) < w; omega, a4, a5, by show m.lo.toNat ≠ m.hi.toNat; omega⟩
  · exact ⟨by show (m.hi.toNat : Int) < w; omega, by show (m.lo.toNat : Int) < w; omega, a4, a5, by show m.hi.toNat ≠ m.lo.toNat; omega⟩
theorem oV_non {o : Option Int} : (oV o = .non) ↔ o = none := by cases o <;> simp [oV]
def spBelow : Sp := fun vs H Q _ => ∃ o t, vs = [oV o, .int t] ∧ Q (.bl (below o t)) H
def spLone : Sp := fun vs H Q _ => ∃ b, ∃ k : Nat, ∃ x rooms tr tm ps, vs = [.ref b, .int k, .int x] ∧ BookAt H b rooms tr tm ps ∧ rooms.length ≤ 1000 ∧ ∀ l H', H l = none → Same H H' → H' l = some (.lst ((rep rooms.length (lone k x)).map oV)) → Q (.ref l) H'
def spWays : Sp := fun vs H Q _ => ∃ b rooms tr tm ps, vs = [.ref b] ∧ BookAt H b rooms tr tm ps ∧ Good rooms.length (ps.map (·.2)) ∧ ∀ l (ws : List (Addr × W4)) H', H l = none → Same H H' → H' l = some (.lst (ws.map fun a => V.ref a.1)) → (∀ a ∈ ws, H' a.1 = some (.tup a.2.vs)) → ws.map (·.2) = waysN (ps.map (·.2)) ps.length → Q (.ref l) H'
end Sm
namespace L2
open PySem PySem.Spec PyProof.Rows
section
variable {n : Nat} {caps : List Nat} {g : TG} {tc : TT} {te : TE} {σ : St} {H : Hp} {Qf : Addr → Hp → List V → Prop}
theorem comp_range {lo : Int} {m : Nat} (Pv : Nat → St → List V → Hp → Prop) (h0 : Pv 0 (tau0 n caps σ) [] H) (hn : m ≤ 1000) (hl : ∀ i τ acc H, Pv i τ acc H → acc.length ≤ i)
    (hs : ∀ i τ acc H (C : St → List V → Hp → Prop), i < m → Pv i τ acc H → (∀ τ acc H, Pv (i + 1) τ acc H → C τ acc H) → g (.int (lo + i)) τ H fun τ2 H2 => tc τ2 H2 fun b H3 => if b = true then te τ2 H3 fun y H4 => C τ2 (acc ++ [y]) H4 else C τ2 acc H3)
    (hd : ∀ τ acc H, Pv m τ acc H → ∀ p, H p = none → Qf p H acc) :
    ∃ W : Nat → Nat → St → List V → Hp → Prop, (∃ m, W 0 m (tau0 n caps σ) [] H) ∧ ∀ i m' τ acc H, W i m' τ acc H →
      ((Itr lo m).stop i H ∧ acc.length ≤ sizeLine ∧ ∀ p, H p = none → Qf p H acc) ∨
      ((Itr lo m).go i H ∧ acc.length < sizeLine ∧ ∀ x H', (Itr lo m).yld i H x H' → g x τ H' fun τ2 H2 => tc τ2 H2 fun b H3 => if b = true then te τ2 H3 fun y H4 => ∃ m'', m'' < m' ∧ W (i + 1) m'' τ2 (acc ++ [y]) H4 else ∃ m'', m'' < m' ∧ W (i + 1) m'' τ2 acc H3) :=
  comp_of (J := Itr lo m) Pv m h0 hn hl (fun i τ acc H hi p => hi) (fun τ acc H p => Nat.le_refl _)
    (fun i τ acc H C hi p c x H' y => by obtain ⟨e1, e2⟩ := y; subst e1; subst e2; exact hs i τ acc _ C hi p c) hd
end
end L2
set_option Elab.async false
set_option linter.all false
set_option maxRecDepth 100000
set_option maxHeartbeats 4000000
namespace Sm
open PySem L2 SmSort
def run (ws : List W3) (st : Fn) : Fn := ws.foldl fstep st
theorem run_keep : ∀ {ws : List W3} {st : Fn} {i : Nat} {y : Int}, st i = some y → run ws st i = some y
  | [], _, _, _, h => h
  | w :: ws, st, i, y, h => run_keep (ws := ws) (fstep_some h)
theorem run_from : ∀ {ws : List W3} {st : Fn} {i : Nat} {t : Int}, run ws st i = some t → st i = none → ∃ x ∈ ws, x.o = i ∧ x.t = t ∧ ∃ y, run ws st x.g = some y ∧ y < t
  | [], st, i, t, h, h0 => by
    have : st i = some t := h
    rw [h0] at this; cases this
  | w :: ws, st, i, t, h, h0 => by
    have h' : run ws (fstep st w) i = some t := h
    cases e : fstep st w i with
    | none =>
      obtain ⟨x, hx, a, b, y, hy, lt⟩ := run_from h' e
      exact ⟨x, .tail _ hx, a, b, y, hy, lt⟩
    | some z =>
      have z' := run_keep (ws := ws) e
      rw [h'] at z'; cases z'
      unfold fstep at e
      split at e
      · rename_i c
        by_cases io : i = w.o
        · subst io
          rw [put_same] at e; cases e
          obtain ⟨y, hy, lt⟩ := below_iff.mp c.2
          exact ⟨w, .head _, rfl, rfl, y, run_keep (ws := w :: ws) hy, lt⟩
        · rw [put_ne io, h0] at e; cases e
      · rw [h0] at e; cases e
theorem run_closed : ∀ {ws : List W3} {st : Fn}, (∀ x ∈ ws, x.g ≠ x.o) → ws.Pairwise (fun a b => a.t ≤ b.t) → (∀ x ∈ ws, ∀ i y, st i = some y → y ≤ x.t ∨ ∀ j, st j ≠ none → j = i) →
    ∀ x ∈ ws, ∀ y, run ws st x.g = some y → y < x.t → ∃ e, run ws st x.o = some e ∧ e ≤ x.t
  | w :: ws, st, ne, pw, hs, x, hx, y, hy, lt => by
    obtain ⟨p1, p2⟩ := List.pairwise_cons.mp pw
    rcases List.mem_cons.mp hx with rfl | hx
    · cases e : st x.g with
      | none =>
        obtain ⟨z, hz, a, b, _⟩ := run_from (ws := x :: ws) hy e
        rcases List.mem_cons.mp hz with rfl | hz
        · exact absurd a.symm (ne z (.head _))
        · have := p1 z hz
          omega
      | some z =>
        have := run_keep (ws := x :: ws) e
        rw [hy] at this; cases this
        cases eo : st x.o with
        | none =>
          refine ⟨x.t, ?_, Int.le_refl _⟩
          show run ws (fstep st x) x.o = some x.t
          refine run_keep ?_
          unfold fstep
          rw [if_pos ⟨eo, below_iff.mpr ⟨y, e, lt⟩⟩, put_same]
        | some z =>
          refine ⟨z, run_keep (ws := x :: ws) eo, ?_⟩
          rcases hs x (.head _) _ _ eo with q | q
          · exact q
          · exact absurd (q x.g (by rw [e]; simp)) (ne x (.head _))
    · refine run_closed (ws := ws) (st := fstep st w) (fun a ha => ne a (.tail _ ha)) p2 (fun a ha i z hz => ?_) x hx y hy lt
      have base : ∀ i y, st i = some y → y ≤ w.t ∨ ∀ j, st j ≠ none → j = i := hs w (.head _)
      rcases fstep_inv (x := w) base (ne w (.head _)) i z hz with q | q
      · exact .inl (Int.le_trans q (p1 a ha))
      · exact .inr q
theorem ways2_pw : ∀ {ms : List M4}, ms.Pairwise (fun a b => a.t ≤ b.t) → (ways2 ms).Pairwise (fun a b => a.t ≤ b.t)
  | [], _ => .nil
  | m :: ms, h => by
    obtain ⟨h1, h2⟩ := List.pairwise_cons.mp h
    have e : ways2 (m :: ms) = two m ++ ways2 ms := by unfold ways2; rw [List.flatMap_cons]
    rw [e, List.pairwise_append]
    refine ⟨?_, ways2_pw h2, fun a ha b hb => ?_⟩
    · unfold two
      refine .cons (fun x hx => ?_) (List.pairwise_singleton _ _)
      cases List.mem_singleton.mp hx; exact Int.le_refl _
    · have ta : a.t = m.t := by
        unfold two at ha
        simp only [List.mem_cons, List.not_mem_nil, or_false] at ha
        rcases ha with rfl | rfl <;> rfl
      unfold ways2 at hb
      obtain ⟨r, hr, hx⟩ := List.mem_flatMap.mp hb
      have tb : b.t = r.t := by
        unfold two at hx
        simp only [List.mem_cons, List.not_mem_nil, or_false] at hx
        rcases hx with rfl | rfl <;> rfl
      rw [ta, tb]; exact h1 r hr
def rankE (n : Nat) (E : Fn) (t : Int) : Nat := (List.range n).countP fun j => below (E j) t
end Sm
set_option Elab.async false
set_option linter.all false
set_option maxRecDepth 100000
set_option maxHeartbeats 4000000
namespace L2
open PySem PySem.Spec PyProof.Rows
section
variable {X : Cx} {pins : List (Addr × Obj)} {σ : St} {H : Hp} {s : Shared}
theorem Inv.keptAll {m : Str → Option Value} {h' : Heap} {tk : Nat} (I : Inv X pins σ H s) (F0 : Fr X.base X.env.locals s.heap m) (F : Fr X.base X.env.locals h' m)
    (N : News X.base X.env.locals h' (allNews X.base s.heap X.env.locals)) : Inv X pins σ H { s with heap := h', toks := tk } := by
  have keep : ∀ b o, b ≠ X.env.locals → s.heap.get? b = some o → h'.get? b = some o := fun b o hb e => by
    cases q : X.base.get? b with
    | some u =>
      have := I.bk b u q
      rw [e] at this; cases this
      exact F.keep b _ q
    | none => exact (N (b, o) (mem_allNews hb q e)).1
  refine I.step (g' := s.gens) (t' := tk) (d' := s.drawn) (ch := []) (fun _ z => nomatch z) (fun b o hb _ _ e _ => keep b o hb e) (fun b o hb _ _ e _ => ⟨o.slots, keep b o hb e⟩) (fun b o _ e n => n) (fun b o _ e => ?_)
    (fun b ys e => e) (fun b o u e => e) (fun b ps e => ⟨#[], by rw [e, Array.append_empty]⟩) (fun m' hm => ?_) (fun b u e => ?_) I.bare
  · by_cases hb : b = X.env.locals
    · obtain ⟨o', _, _, q, _⟩ := F.ns
      exact ⟨o', by rw [hb]; exact q⟩
    · exact ⟨o, keep b o hb e⟩
  · obtain ⟨o1, es1, ep1, e1, d1, k1, f1⟩ := hm
    obtain ⟨o2, es2, ep2, e2, d2, k2, f2⟩ := F0.ns
    rw [e1] at e2; cases e2
    rw [d1] at d2; cases d2
    obtain ⟨o3, es3, ep3, e3, d3, k3, f3⟩ := F.ns
    exact ⟨o3, es3, ep3, e3, d3, k3, fun name => (f3 name).trans ((f2 name).symm.trans (f1 name))⟩
  · refine (I.hok b u e).stay (fun c v hc q => keep c v (fun z => ?_) q) (fun c q => q) fun c ys q => q
    rcases hc with rfl | hc
    · rw [z, I.free] at e; cases e
    · rw [z, I.free] at hc; cases hc
theorem bools_of : ∀ {bs : List Bool} {us : List Value}, Vals (bs.map V.bl) us → LSm.BoolsAre us bs
  | [], us, r => by cases r; exact .nil
  | b :: bs, us, r => by
    cases r with
    | cons x y =>
      cases x
      exact .cons b (bools_of y)
end
end L2
namespace Sm
open PySem L2 SmSort
end Sm
set_option Elab.async false
set_option linter.all false
set_option maxRecDepth 100000
set_option maxHeartbeats 4000000
namespace Sm
open PySem L2 SmSort
def Link (ms : List M4) (n g o : Nat) (t : Int) : Prop := ∃ m, ms[n]? = some m ∧ m.t = t ∧ ((m.lo.toNat = g ∧ m.hi.toNat = o) ∨ (m.lo.toNat = o ∧ m.hi.toNat = g))
theorem waysN_link {ms : List M4} : ∀ {i : Nat} {x : W4}, x ∈ waysN ms i → Link ms x.n x.w.g x.w.o x.w.t
  | 0, x, h => by cases h
  | i + 1, x, h => by
    unfold waysN at h
    rcases List.mem_append.mp h with h | h
    · exact waysN_link h
    · cases e : ms[i]? with
      | none => rw [e] at h; cases h
      | some m =>
        rw [e] at h
        simp only [List.mem_cons, List.not_mem_nil, or_false] at h
        rcases h with rfl | rfl
        · exact ⟨m, e, rfl, .inl ⟨rfl, rfl⟩⟩
        · exact ⟨m, e, rfl, .inr ⟨rfl, rfl⟩⟩
theorem Tups.setD {l : Addr} {H : Hp} {kvs : List (Key × V)} {o : HO} (h : H l = some (.dK kvs)) : Tups H (upd H l o) := fun b u e => by rw [upd_ne (ne_of e h (by intro z; cases z))]; exact e
theorem rank_lt {n : Nat} {E : Fn} {g : Nat} {y t : Int} (hg : g < n) (hy : E g = some y) (lt : y < t) : rankE n E y < rankE n E t :=
  countP_lt (fun j hj => by
    obtain ⟨z, hz, l⟩ := below_iff.mp hj
    exact below_iff.mpr ⟨z, hz, by omega⟩) (List.mem_range.mpr hg) (by
      cases c : below (E g) y with
      | false => rfl
      | true =>
        obtain ⟨z, hz, l⟩ := below_iff.mp c
        rw [hy] at hz; cases hz; omega) (below_iff.mpr ⟨y, hy, lt⟩)
theorem rank_le (n : Nat) (E : Fn) (t : Int) : rankE n E t ≤ n := by
  unfold rankE
  have := List.countP_le_length (p := fun j => below (E j) t) (l := List.range n)
  rw [List.length_range] at this
  exact this
theorem Link.inside {n g o w : Nat} {t : Int} {ms : List M4} (g0 : Good w ms) (h : Link ms n g o t) : g < w ∧ o < w ∧ g ≠ o := by
  obtain ⟨m, hm, _, h⟩ := h
  obtain ⟨a1, a2, a3, _⟩ := g0.each m (List.mem_of_getElem? hm)
  rcases h with ⟨rfl, rfl⟩ | ⟨rfl, rfl⟩ <;> omega
theorem Purse.same {H H' : Hp} {p : Addr} (h : Purse H p) (e : Same H H') : Purse H' p := by
  obtain ⟨x, y, z, q⟩ := h
  exact ⟨x, y, z, e _ _ q⟩
end Sm
set_option Elab.async false
set_option linter.all false
set_option maxRecDepth 100000
set_option maxHeartbeats 4000000
namespace Sm
open PySem L2 SmSort
theorem fwd_ge {a : Int} : ∀ {ws : List W3} {st : Fn}, (∀ i y, st i = some y → a ≤ y) → ∀ i y, run ws st i = some y → a ≤ y
  | [], st, h, i, y, e => h i y e
  | w :: ws, st, h, i, y, e => by
    refine fwd_ge (ws := ws) (st := fstep st w) (fun j z hz => ?_) i y e
    unfold fstep at hz
    split at hz
    · rename_i c
      by_cases ej : j = w.o
      · rw [ej, put_same] at hz; cases hz
        obtain ⟨u, hu, lt⟩ := below_iff.mp c.2
        have := h _ _ hu
        omega
      · rw [put_ne ej] at hz; exact h j z hz
    · exact h j z hz
theorem since_le {s w : Nat} {a e : Int} {ms : List M4} (h : fwd ms (lone s a) w = some e) : a ≤ e :=
  fwd_ge (ws := ways2 ms) (fun i y e => by
    unfold lone at e
    split at e
    · cases e; exact Int.le_refl _
    · cases e) w e h
end Sm
set_option Elab.async false
set_option linter.all false
set_option maxRecDepth 100000
set_option maxHeartbeats 4000000
namespace L2
open PySem PySem.Spec PyProof.Rows
section
variable {X : Cx}
end
end L2
namespace Sm
open PySem L2 SmSort
theorem atI_last {α : Type} {xs : List α} {v : α} (h : xs.getLast? = some v) : atI xs (-1) = some v := by
  cases xs with
  | nil => cases h
  | cons a b =>
    rw [List.getLast?_eq_getElem?] at h
    unfold atI
    have e : ixN (a :: b).length (-1) = some ((a :: b).length - 1) := by
      unfold ixN
      simp only [List.length_cons]
      rw [if_neg (by omega)]
      simp
      omega
    rw [e]
    exact h
end Sm
set_option Elab.async false
set_option linter.all false
set_option maxRecDepth 100000
set_option maxHeartbeats 4000000
namespace Sm
open PySem L2 SmSort
end Sm
namespace L2
open PySem
theorem iteN {c : Bool} {A : Prop} {D : Ends} {σ : St} {H : Hp} (Pre : St → Hp → Prop) (k : ∀ σ H, Pre σ H → D.nx σ H) (h1 : c = true → (∀ σ H, Pre σ H → D.nx σ H) → A) (h2 : c = false → Pre σ H) : if c = true then A else tNext D σ H := by
  cases c with
  | true => exact h1 rfl k
  | false => exact k _ _ (h2 rfl)
end L2
set_option Elab.async false
set_option linter.all false
set_option maxRecDepth 100000
set_option maxHeartbeats 4000000
namespace Sm
open PySem L2 SmSort
theorem Go.put {p l : Addr} {H H' : Hp} {o : HO} (g : Go p H H') (h : H l = none) (np : l ≠ p) : Go p H (upd H' l o) := by
  refine ⟨fun b u nb e => by rw [upd_ne (ne_of_none e h)]; exact g.1 b u nb e, ?_⟩
  obtain ⟨x, y, z, e⟩ := g.2
  exact ⟨x, y, z, by rw [upd_ne np.symm]; exact e⟩
end Sm
set_option Elab.async false
set_option linter.all false
set_option maxRecDepth 100000
set_option maxHeartbeats 400000
namespace Sm
open PySem L2 SmSort
def jstep (row F : Fn) (x : W3) : Fn := if below (row x.g) x.t = true ∧ upto (F x.o) x.t = false then put F x.o (some x.t) else F
def jac (ws : List W3) (row : Fn) : Fn := ws.foldl (jstep row) row
def jrow (ws : List W3) (row : Fn) : Nat → Fn
  | 0 => row
  | k + 1 => jac ws (jrow ws row k)
def rk (ws : List W3) : Option Int → Nat
  | none => ws.length + 1
  | some y => ws.countP fun x => decide (x.t < y)
end Sm
set_option Elab.async false
set_option linter.all false
set_option maxRecDepth 100000
set_option maxHeartbeats 400000
namespace Sm
open PySem L2 SmSort
structure Rows (H0 H : Hp) (ms : List M4) (n k : Nat) (x : Int) (as : List Addr) : Prop where
  pos : as ≠ []
  few : as.length ≤ 200000
  at' : ∀ (i : Nat) (a : Addr), as[i]? = some a → H0 a = none ∧ H a = some (.lst ((rep n (jrow (ways2 ms) (lone k x) i)).map oV))
  ne : ∀ i, i + 1 < as.length → rep n (jrow (ways2 ms) (lone k x) (i + 1)) ≠ rep n (jrow (ways2 ms) (lone k x) i)
  last : rep n (jrow (ways2 ms) (lone k x) as.length) = rep n (jrow (ways2 ms) (lone k x) (as.length - 1))
end Sm
namespace L2
open PySem PySem.Spec PyProof.Rows
section
variable {K : PySem.W.Frag} {a : Addr} {xs : List V} {n : Nat} {caps : List Nat} {g : TG} {tc : TT} {te : TE} {σ : St} {H : Hp} {Qf : Addr → Hp → List V → Prop}
end
end L2
namespace Sm
open PySem L2 SmSort
end Sm
namespace Sm
open PySem L2 SmSort
end Sm
namespace Sm
open PySem L2
end Sm
set_option Elab.async false
set_option linter.all false
set_option maxRecDepth 100000
set_option maxHeartbeats 400000
namespace Sm
open PySem L2 SmSort
def again (ms : List M4) (day first : Int) : Nat → List M4
  | 0 => []
  | r + 1 => again ms day first r ++ ms.map (M4.late ((first + r) * day))
def agF (ms : List M4) (day first : Int) (st : Fn) (r : Nat) : Fn := fwd (again ms day first r) st
theorem fwd_append (a b : List M4) (st : Fn) : fwd (a ++ b) st = fwd b (fwd a st) := by
  unfold fwd ways2
  rw [List.flatMap_append, List.foldl_append]
def W3.late (l : Int) (x : W3) : W3 := ⟨x.g, x.o, x.t + l⟩
theorem ways2_late (ms : List M4) (l : Int) : ways2 (ms.map (M4.late l)) = (ways2 ms).map (W3.late l) := by
  unfold ways2
  induction ms with
  | nil => rfl
  | cons m ms ih => rw [List.map_cons, List.flatMap_cons, List.flatMap_cons, List.map_append, ih]; rfl
theorem agF_succ (ms : List M4) (day first : Int) (st : Fn) (r : Nat) : agF ms day first st (r + 1) = ((ways2 ms).map (W3.late ((first + r) * day))).foldl fstep (agF ms day first st r) := by
  show fwd (again ms day first r ++ ms.map (M4.late ((first + r) * day))) st = _
  rw [fwd_append]
  show (ways2 (ms.map (M4.late ((first + r) * day)))).foldl fstep _ = _
  rw [ways2_late]; rfl
theorem fold_keep {ws : List W3} : ∀ {st : Fn} {i : Nat} {y : Int}, st i = some y → ws.foldl fstep st i = some y := by
  induction ws with
  | nil => exact fun h => h
  | cons w ws ih => exact fun h => ih (fstep_some h)
theorem fold_from {ws : List W3} : ∀ {st : Fn} {i : Nat} {y : Int}, ws.foldl fstep st i = some y → st i = some y ∨ ∃ x ∈ ws, x.o = i ∧ x.t = y := by
  induction ws with
  | nil => exact fun h => .inl h
  | cons w ws ih =>
    intro st i y h
    rcases ih h with h | ⟨x, hx, e⟩
    · unfold fstep at h
      split at h
      · by_cases ej : i = w.o
        · rw [ej, put_same] at h; cases h
          exact .inr ⟨w, .head _, ej.symm, rfl⟩
        · rw [put_ne ej] at h; exact .inl h
      · exact .inl h
    · exact .inr ⟨x, .tail _ hx, e⟩
structure DayOk (ms : List M4) (day first x : Int) : Prop where
  pos : 1 ≤ day
  each : ∀ m ∈ ms, 1 ≤ m.t ∧ m.t ≤ day
  lo : first * day ≤ x
  hi : x < (first + 1) * day
theorem DayOk.mk' {ms : List M4} {day x : Int} (h : 1 ≤ day) (e : ∀ m ∈ ms, 1 ≤ m.t ∧ m.t ≤ day) : DayOk ms day (x / day) x := by
  refine ⟨h, e, ?_, ?_⟩
  · exact Int.ediv_mul_le _ (by omega)
  · have := Int.lt_ediv_add_one_mul_self x (show 0 < day by omega)
    exact this
theorem way_in {ms : List M4} {x : W3} (h : x ∈ ways2 ms) : ∃ m ∈ ms, x.t = m.t := by
  unfold ways2 at h
  obtain ⟨m, hm, hx⟩ := List.mem_flatMap.mp h
  refine ⟨m, hm, ?_⟩
  unfold two at hx
  rcases List.mem_cons.mp hx with rfl | hx
  · rfl
  · rcases List.mem_cons.mp hx with rfl | hx
    · rfl
    · cases hx
theorem mul_le_of {a b d : Int} (h : a ≤ b) (hd : 0 ≤ d) : a * d ≤ b * d := Int.mul_le_mul_of_nonneg_right h hd
theorem agF_le {ms : List M4} {day first x : Int} {k : Nat} (D : DayOk ms day first x) : ∀ (r : Nat), 1 ≤ r → ∀ i y, agF ms day first (lone k x) r i = some y → y ≤ (first + r) * day
  | 0, h => absurd h (by omega)
  | r + 1, _ => fun i y h => by
    rw [agF_succ] at h
    have dp := D.pos
    rcases fold_from h with h | ⟨w, hw, _, rfl⟩
    · rcases Nat.eq_zero_or_pos r with e | e
      · subst e
        have h : lone k x i = some y := h
        unfold lone at h
        split at h
        · cases h
          have := D.hi
          show x ≤ (first + 1) * day
          omega
        · cases h
      · have := agF_le D r e i y h
        have m := mul_le_of (show first + (r : Int) ≤ first + ((r + 1 : Nat) : Int) by omega) (show 0 ≤ day by omega)
        omega
    · obtain ⟨u, hu, rfl⟩ := List.mem_map.mp hw
      obtain ⟨m, hm, e⟩ := way_in hu
      have := D.each m hm
      show u.t + (first + r) * day ≤ (first + ((r + 1 : Nat) : Int)) * day
      have e2 : (first + ((r + 1 : Nat) : Int)) * day = (first + r) * day + day := by
        rw [show first + ((r + 1 : Nat) : Int) = (first + r) + 1 by omega, Int.add_mul, Int.one_mul]
      omega
theorem round_has {ws : List W3} : ∀ {st : Fn} {x : W3} {y : Int}, x ∈ ws → st x.g = some y → y < x.t → ∃ z, ws.foldl fstep st x.o = some z := by
  induction ws with
  | nil => intro _ _ _ h; cases h
  | cons w ws ih =>
    intro st x y hx hg lt
    rcases List.mem_cons.mp hx with rfl | hx
    · cases ho : st x.o with
      | some z => exact ⟨z, by rw [List.foldl_cons]; exact fold_keep (fstep_some ho)⟩
      | none =>
        refine ⟨x.t, ?_⟩
        rw [List.foldl_cons]
        refine fold_keep ?_
        unfold fstep
        rw [if_pos ⟨ho, below_iff.mpr ⟨y, hg, lt⟩⟩, put_same]
    · exact ih hx (fstep_some hg) lt
def Shut (ms : List M4) (f : Fn) : Prop := ∀ x ∈ ways2 ms, f x.g ≠ none → f x.o ≠ none
theorem shut_fold {f : Fn} : ∀ {ws : List W3}, (∀ x ∈ ws, f x.g ≠ none → f x.o ≠ none) → ws.foldl fstep f = f
  | [], _ => rfl
  | w :: ws, h => by
    have e : fstep f w = f := by
      unfold fstep
      rw [if_neg]
      rintro ⟨a, b⟩
      obtain ⟨y, hy, _⟩ := below_iff.mp b
      exact h w (.head _) (by rw [hy]; exact fun z => nomatch z) a
    show ws.foldl fstep (fstep f w) = f
    rw [e]
    exact shut_fold fun x hx => h x (.tail _ hx)
theorem agF_shut {ms : List M4} {day first : Int} {st : Fn} {r : Nat} (h : Shut ms (agF ms day first st r)) : agF ms day first st (r + 1) = agF ms day first st r := by
  rw [agF_succ]
  refine shut_fold fun x hx => ?_
  obtain ⟨u, hu, rfl⟩ := List.mem_map.mp hx
  exact h u hu
def cntF (n : Nat) (f : Fn) : Nat := (List.range n).countP fun i => (f i).isSome
theorem agF_count {n : Nat} {ms : List M4} {day first x : Int} {k : Nat} (g : ∀ x ∈ ways2 ms, x.g < n ∧ x.o < n) (hk : k < n) (D : DayOk ms day first x) : ∀ r : Nat, 1 ≤ r → Shut ms (agF ms day first (lone k x) r) ∨ r ≤ cntF n (agF ms day first (lone k x) r)
  | 0, h => absurd h (by omega)
  | r + 1, _ => by
    have dp := D.pos
    rcases Nat.eq_zero_or_pos r with e | e
    · subst e
      refine .inr ?_
      have hx : agF ms day first (lone k x) 1 k = some x := by
        rw [agF_succ]
        exact fold_keep (by show lone k x k = some x; unfold lone; rw [if_pos rfl])
      exact List.countP_pos_iff.mpr ⟨k, List.mem_range.mpr hk, by rw [hx]; rfl⟩
    · by_cases c : Shut ms (agF ms day first (lone k x) r)
      · rw [agF_shut c]
        exact .inl c
      · rcases agF_count g hk D r e with h | h
        · exact absurd h c
        · refine .inr ?_
          obtain ⟨w, hw⟩ := Classical.not_forall.mp c
          obtain ⟨hw, hw2⟩ := Classical.not_imp.mp hw
          obtain ⟨hg, ho⟩ := Classical.not_imp.mp hw2
          have ho := Classical.not_not.mp ho
          obtain ⟨y, hy⟩ := Option.ne_none_iff_exists'.mp hg
          have le := agF_le D r e _ _ hy
          obtain ⟨m, hm, et⟩ := way_in hw
          have := D.each m hm
          obtain ⟨z, hz⟩ := round_has (ws := (ways2 ms).map (W3.late ((first + r) * day))) (st := agF ms day first (lone k x) r) (x := w.late ((first + r) * day)) (List.mem_map.mpr ⟨w, hw, rfl⟩) hy (by show y < w.t + (first + r) * day; omega)
          rw [← agF_succ] at hz
          have hz : agF ms day first (lone k x) (r + 1) w.o = some z := hz
          have := countP_lt (l := List.range n) (p := fun i => (agF ms day first (lone k x) r i).isSome) (q := fun i => (agF ms day first (lone k x) (r + 1) i).isSome) (a := w.o) (fun i hi => by
            obtain ⟨y, hy⟩ := Option.isSome_iff_exists.mp hi
            rw [agF_succ, fold_keep hy]; rfl) (List.mem_range.mpr (g w hw).2) (by rw [ho]; rfl) (by rw [hz]; rfl)
          show r + 1 ≤ (List.range n).countP fun i => (agF ms day first (lone k x) (r + 1) i).isSome
          have h : r ≤ (List.range n).countP fun i => (agF ms day first (lone k x) r i).isSome := h
          omega
theorem agF_closed {n : Nat} {ms : List M4} {day first x : Int} {k : Nat} (g : ∀ x ∈ ways2 ms, x.g < n ∧ x.o < n) (hk : k < n) (D : DayOk ms day first x) : Shut ms (agF ms day first (lone k x) n) := by
  rcases agF_count g hk D n (by omega) with h | h
  · exact h
  · intro w hw _ ho
    have : (List.range n).countP (fun i => (agF ms day first (lone k x) n i).isSome) < (List.range n).countP (fun _ => true) := countP_lt (a := w.o) (fun _ _ => rfl) (List.mem_range.mpr (g w hw).2) (by rw [ho]; rfl) rfl
    have e : (List.range n).countP (fun _ => true) = n := by rw [List.countP_eq_length.mpr (fun _ _ => rfl), List.length_range]
    have h : n ≤ (List.range n).countP (fun i => (agF ms day first (lone k x) n i).isSome) := h
    omega
theorem agF_end {n : Nat} {ms : List M4} {day first x : Int} {k : Nat} (g : ∀ x ∈ ways2 ms, x.g < n ∧ x.o < n) (hk : k < n) (D : DayOk ms day first x) : ∀ j, agF ms day first (lone k x) (n + j) = agF ms day first (lone k x) n
  | 0 => rfl
  | j + 1 => by
    have ih := agF_end g hk D j
    rw [← Nat.add_assoc, agF_shut (by rw [ih]; exact agF_closed g hk D), ih]
theorem ways_in {n : Nat} {ms : List M4} (g : Good n ms) : ∀ x ∈ ways2 ms, x.g < n ∧ x.o < n := fun x hx => by
  obtain ⟨a, b, _⟩ := ways2_mem g hx
  omega
end Sm
set_option Elab.async false
set_option linter.all false
set_option maxRecDepth 100000
set_option maxHeartbeats 400000
namespace L2
open PySem PySem.Spec PyProof.Rows
section
variable {X : Cx} {tg : Expr}
end
end L2
namespace L2
open PySem PySem.Spec PyProof.Rows
section
variable {X : Cx}
theorem call_any {K : PySem.W.Frag} (hK : X.K = K) (hc : X.calm = true) : CallR X (.builtin "any") (fun xs H Q => ∃ p, ∃ bs : List Bool, xs = [.ref p] ∧ SqL K H p (bs.map V.bl) ∧ Q (.bl (bs.any id)) H) := by
  subst hK
  intro pins s σ H xs us Q I r h
  obtain ⟨p, bs, rfl, hq, q⟩ := h
  obtain ⟨u, rfl, rx⟩ := vals1 r
  cases rx
  obtain ⟨its, r', pl, hz⟩ := I.list hq
  obtain ⟨m, F⟩ := I.fr
  exact LSm.any_bools F (news_all (g := X.base) (h := s.heap)) (I.ok.hd hc) pl.isList (bools_of r') fun h' tk F' N' => ⟨.bl _, H, I.keptAll F F' N', rfl, q⟩
theorem op_neUnit (hu : X.A.units + 64 < cLine) : OpR X (compareOp .NotEq) (fun x y H Q => ∃ a b xs, x = .ref a ∧ y = .ref b ∧ SqT X.K H a xs ∧ SqT X.K H b [] ∧ Q (.bl (!xs.isEmpty)) H) := by
  intro pins s σ H x y v u Q I rx ry h
  obtain ⟨a, b, xs, rfl, rfl, ha, hb, q⟩ := h
  cases rx; cases ry
  obtain ⟨its, r, p, _⟩ := I.tuple ha
  obtain ⟨its2, r2, p2, _⟩ := I.tuple hb
  cases r2
  cases r with
  | nil => exact SeqAt.RcNeAt.tuples (e := fun _ => true) p p2 (by omega) (fun j h1 h2 => absurd h2 (Nat.not_lt_zero _)) _ _ _ _ ⟨.bl _, H, I, rfl, q⟩
  | cons r1 rr => exact SeqAt.RcNeAt.tuples (e := fun _ => true) p p2 (by omega) (fun j h1 h2 => absurd h2 (Nat.not_lt_zero _)) _ _ _ _ ⟨.bl _, H, I, rfl, by simpa using q⟩
end
end L2
namespace HT
open PySem PySem.Spec PyProof.Rows
section
variable {prog : Program} {w : World} {A : Around} {E : Value → Shared → Prop} {s : Shared}
end
end HT
namespace L2
open PySem PySem.Spec PyProof.Rows
section
variable {X : Cx}
end
end L2
set_option Elab.async false
set_option linter.all false
set_option maxRecDepth 100000
set_option maxHeartbeats 400000
namespace Sm
open PySem L2 SmSort
def CameD (ms : List M4) (day : Int) (k : Nat) (f : Fn) (kvs : List (Key × V)) (H : Hp) : Prop :=
  ∀ o t, f o = some t → o = k ∨ ∃ tt n g turn y, valV kvs (Sum.inl (o : Int)) = some (.ref tt) ∧ H tt = some (.tup [.int ((n : Nat) : Int), .int turn, .int ((g : Nat) : Int)]) ∧ 0 ≤ turn ∧ Link ms n g o (t - turn * day) ∧ f g = some y ∧ y < t
theorem CameD.tups {ms : List M4} {day : Int} {k : Nat} {f : Fn} {kvs : List (Key × V)} {H H' : Hp} (c : CameD ms day k f kvs H) (t : Tups H H') : CameD ms day k f kvs H' := fun o x h => by
  rcases c o x h with e | ⟨tt, n, g, u, y, a1, a2, a3⟩
  · exact .inl e
  · exact .inr ⟨tt, n, g, u, y, a1, t _ _ a2, a3⟩
theorem CameD.step {ms : List M4} {day turn : Int} {k : Nat} {f : Fn} {kvs : List (Key × V)} {H : Hp} {tt : Addr} {x : W4} (c : CameD ms day k f kvs H) (t0 : 0 ≤ turn) (ho : f x.w.o = none) (hb : below (f x.w.g) (x.w.t + turn * day) = true) (hl : Link ms x.n x.w.g x.w.o x.w.t)
    (ht : H tt = some (.tup [.int (x.n : Int), .int turn, .int (x.w.g : Int)])) : CameD ms day k (put f x.w.o (some (x.w.t + turn * day))) (putK kvs (Sum.inl (x.w.o : Int)) (.ref tt)) H := fun o t h => by
  have keep : ∀ g y, f g = some y → put f x.w.o (some (x.w.t + turn * day)) g = some y := fun g y e => by rw [put_ne fun z => by rw [z, ho] at e; cases e]; exact e
  by_cases e : o = x.w.o
  · subst e
    rw [put_same] at h; cases h
    obtain ⟨y, hy, lt⟩ := below_iff.mp hb
    refine .inr ⟨tt, x.n, x.w.g, turn, y, by rw [valV_put, if_pos rfl], ht, t0, ?_, keep _ _ hy, lt⟩
    rw [show x.w.t + turn * day - turn * day = x.w.t by omega]
    exact hl
  · rw [put_ne e] at h
    rcases c o t h with e' | ⟨t2, n, g, u, y, a1, a2, a3, a4, a5, a6⟩
    · exact .inl e'
    · refine .inr ⟨t2, n, g, u, y, ?_, a2, a3, a4, keep _ _ a5, a6⟩
      rw [valV_put, if_neg fun z => e (by have := Sum.inl.inj z; omega)]
      exact a1
def spAg2 : Sp := fun vs H Q _ => ∃ b, ∃ day : Int, ∃ k : Nat, ∃ x rooms tr tm ps, vs = [.ref b, .int day, .int k, .int x] ∧ BookAt H b rooms tr tm ps ∧ rooms.length ≤ 1000 ∧ Good rooms.length (ps.map (·.2)) ∧ 1 ≤ day ∧ day ≤ 1000000000 ∧ 0 ≤ x ∧ x ≤ 2000000000 ∧
  ∀ t l d kvs H', H l = none → Same H H' → H' t = some (.tup [.ref l, .ref d]) → H' l = some (.lst ((rep rooms.length (agF (ps.map (·.2)) day (x / day) (lone k x) rooms.length)).map oV)) → H' d = some (.dK kvs) → CameD (ps.map (·.2)) day k (agF (ps.map (·.2)) day (x / day) (lone k x) rooms.length) kvs H' → Q (.ref t) H'
def spNeed : Sp := fun vs H Q _ => ∃ b, ∃ day : Int, ∃ rooms tr tm ps, vs = [.ref b, .int day] ∧ BookAt H b rooms tr tm ps ∧ ps.length ≤ 1000 ∧ 1 ≤ day ∧ day ≤ 1000000 ∧ (∀ m ∈ ps.map (·.2), m.t ≤ day) ∧ ∀ H', Same H H' → Q .non H'
def spAgT : Sp := fun vs H Q _ => ∃ b, ∃ day : Int, ∃ k : Nat, ∃ x rooms tr tm ps, vs = [.ref b, .int day, .int k, .int x] ∧ BookAt H b rooms tr tm ps ∧ rooms.length ≤ 1000 ∧ Good rooms.length (ps.map (·.2)) ∧ 1 ≤ day ∧ day ≤ 1000000 ∧ (∀ m ∈ ps.map (·.2), m.t ≤ day) ∧ 0 ≤ x ∧ x ≤ 2000000000 ∧
  ∀ l H', H l = none → Same H H' → H' l = some (.lst ((rep rooms.length (agF (ps.map (·.2)) day (x / day) (lone k x) rooms.length)).map oV)) → Q (.ref l) H'
def spSqz : Sp := fun vs H Q _ => ∃ p b rooms tr tm ps, vs = [.ref p, .ref b] ∧ BookAt H b rooms tr tm ps ∧ rooms.length ≤ 60 ∧ Good rooms.length (ps.map (·.2)) ∧ Purse H p ∧
  ∀ b' tm' ps' H', Go p H H' → BookAt H' b' rooms tr tm' ps' → Good rooms.length (ps'.map (·.2)) → (∀ m ∈ ps'.map (·.2), m.t ≤ 1000000) → Q (.ref b') H'
def spDayOf : Sp := fun vs H Q _ => ∃ p b rooms tr tm ps, vs = [.ref p, .ref b] ∧ BookAt H b rooms tr tm ps ∧ Good rooms.length (ps.map (·.2)) ∧ (∀ m ∈ ps.map (·.2), m.t ≤ 1000000) ∧ Purse H p ∧
  ∀ d H', Go p H H' → 1 ≤ d → d ≤ 1000000 → (∀ m ∈ ps.map (·.2), m.t ≤ d) → Q (.int d) H'
def spSince67 : Sp := fun vs H Q _ => ∃ p b day rooms tr tm ps, vs = [.ref p, .ref b, .int day] ∧ BookAt H b rooms tr tm ps ∧ Good rooms.length (ps.map (·.2)) ∧ (∀ m ∈ ps.map (·.2), m.t ≤ 1000000) ∧ 1 ≤ day ∧ day ≤ 1000000 ∧ Purse H p ∧ ∀ x H', Go p H H' → 0 ≤ x → x ≤ 1000000000 → Q (.int x) H'
structure SqOk (w : Int) (ms : List M4) (i : Nat) (now ahead : Int) (qs : List (M4 × M4)) : Prop where
  old : qs.map (·.1) = ms.take i
  each : ∀ q ∈ qs, q.2.lo = q.1.lo ∧ q.2.hi = q.1.hi ∧ q.2.m = q.1.m ∧ 1 ≤ q.2.t ∧ q.2.t ≤ now ∧ (q.2.t = now → q.1.t = ahead)
  ord : (qs.map (·.2)).Pairwise fun a b => a.t < b.t ∨ (a.t = b.t ∧ a.lo < b.lo ∧ apart a b)
  pos : 1 ≤ now ∨ ahead = 0
  now0 : 0 ≤ now
  most : now ≤ 16000 * i
theorem SqOk.step {w : Int} {ms : List M4} {i : Nat} {now ahead add : Int} {qs : List (M4 × M4)} (g : Good w ms) {r : M4} (hr : ms[i]? = some r) (S : SqOk w ms i now ahead qs) (h : (r.t = ahead ∧ add = 0) ∨ (r.t ≠ ahead ∧ 1 ≤ add ∧ add ≤ 16000)) :
    SqOk w ms (i + 1) (now + add) r.t (qs ++ [(r, ⟨r.lo, r.hi, now + add, r.m⟩)]) := by
  obtain ⟨a1, a2, a3, a4, a5, _⟩ := g.each r (List.mem_of_getElem? hr)
  have hn : 1 ≤ now + add := by
    rcases h with ⟨h, _⟩ | ⟨_, h, _⟩
    · rcases S.pos with p | p
      · omega
      · omega
    · have := S.now0; omega
  have n0 := S.now0
  have nm := S.most
  refine ⟨by rw [List.map_append, S.old, take_snoc hr]; rfl, fun q hq => ?_, ?_, .inl hn, by omega, by omega⟩
  · rcases List.mem_append.mp hq with hq | hq
    · obtain ⟨b1, b2, b3, b4, b5, b6⟩ := S.each q hq
      refine ⟨b1, b2, b3, b4, by omega, fun e => ?_⟩
      have e0 : add = 0 := by omega
      rw [b6 (by omega)]
      rcases h with ⟨h, _⟩ | ⟨_, h, _⟩
      · exact h.symm
      · omega
    · cases List.mem_singleton.mp hq
      exact ⟨rfl, rfl, rfl, hn, Int.le_refl _, fun _ => rfl⟩
  · rw [List.map_append, List.pairwise_append]
    refine ⟨S.ord, List.pairwise_singleton _ _, fun a ha b hb => ?_⟩
    cases List.mem_singleton.mp hb
    obtain ⟨q, hq, rfl⟩ := List.mem_map.mp ha
    obtain ⟨b1, b2, b3, b4, b5, b6⟩ := S.each q hq
    show q.2.t < now + add ∨ (q.2.t = now + add ∧ q.2.lo < r.lo ∧ apart q.2 _)
    by_cases e : q.2.t < now + add
    · exact .inl e
    · have e0 : add = 0 := by omega
      rcases h with ⟨h, _⟩ | ⟨_, h, _⟩
      · have et := b6 (by omega)
        have hq1 : q.1 ∈ ms.take i := by rw [← S.old]; exact List.mem_map.mpr ⟨q, hq, rfl⟩
        obtain ⟨j, hj⟩ := List.mem_iff_getElem?.mp hq1
        have ji : j < i := by
          have := (List.getElem?_eq_some_iff.mp hj).1
          rw [List.length_take] at this; omega
        rw [List.getElem?_take, if_pos ji] at hj
        obtain ⟨l1, e1⟩ := List.getElem?_eq_some_iff.mp hj
        obtain ⟨l2, e2⟩ := List.getElem?_eq_some_iff.mp hr
        have o := List.pairwise_iff_getElem.mp g.order j i l1 l2 ji
        rw [e1, e2] at o
        rcases o with o | ⟨_, o1, o2⟩
        · omega
        · refine .inr ⟨by omega, by omega, ?_⟩
          unfold apart at o2 ⊢
          dsimp only
          rw [b1, b2]; exact o2
      · omega
theorem SqOk.good {w : Int} {ms : List M4} {now ahead : Int} {qs : List (M4 × M4)} (g : Good w ms) (S : SqOk w ms ms.length now ahead qs) : Good w (qs.map (·.2)) ∧ ∀ m ∈ qs.map (·.2), m.t ≤ 1000000 := by
  have f := g.few
  have nm := S.most
  have hold := S.old
  rw [List.take_length] at hold
  have hl : qs.length = ms.length := by rw [← hold, List.length_map]
  refine ⟨⟨by rw [List.length_map, hl]; exact f, fun r hr => ?_, S.ord⟩, fun r hr => ?_⟩
  · obtain ⟨q, hq, rfl⟩ := List.mem_map.mp hr
    obtain ⟨b1, b2, b3, b4, b5, b6⟩ := S.each q hq
    obtain ⟨a1, a2, a3, a4, a5, a6, a7⟩ := g.each q.1 (by rw [← hold]; exact List.mem_map.mpr ⟨q, hq, rfl⟩)
    rw [b1, b2, b3]
    exact ⟨a1, a2, a3, b4, by omega, a6, a7⟩
  · obtain ⟨q, hq, rfl⟩ := List.mem_map.mp hr
    obtain ⟨b1, b2, b3, b4, b5, b6⟩ := S.each q hq
    omega
theorem last_most : ∀ {ms : List M4} {r m : M4}, ms.Pairwise (fun a b => a.t ≤ b.t) → ms.getLast? = some r → m ∈ ms → m.t ≤ r.t
  | [], _, _, _, _, h => nomatch h
  | [a], r, m, _, hr, h => by
    cases hr
    cases List.mem_singleton.mp h
    exact Int.le_refl _
  | a :: b :: ms, r, m, hp, hr, h => by
    rw [List.getLast?_cons_cons] at hr
    rw [List.pairwise_cons] at hp
    rcases List.mem_cons.mp h with rfl | h
    · exact hp.1 r (List.mem_of_getLast? hr)
    · exact last_most hp.2 hr h
end Sm
set_option Elab.async false
set_option linter.all false
set_option maxRecDepth 100000
set_option maxHeartbeats 400000
namespace L2
open PySem PySem.Spec PyProof.Rows
section
variable {X : Cx}
end
end L2
namespace Sm
open PySem L2 SmSort
def walkD (ms : List M4) (day : Int) : Nat → Int → List (Int × Int) → Option (Nat × Int)
  | v, t, [] => some (v, t)
  | v, t, c :: cs => match ms[c.1.toNat]? with
    | none => none
    | some m => if 0 ≤ c.1 ∧ 0 ≤ c.2 ∧ (v = m.lo.toNat ∨ v = m.hi.toNat) ∧ t < m.t + c.2 * day then walkD ms day (if v = m.lo.toNat then m.hi.toNat else m.lo.toNat) (m.t + c.2 * day) cs else none
theorem walkD_cons {ms : List M4} {day : Int} {n g o : Nat} {turn y t : Int} {cs : List (Int × Int)} (h : Link ms n g o (t - turn * day)) (ne : g ≠ o) (lt : y < t) (h0 : 0 ≤ turn) : walkD ms day g y (((n : Int), turn) :: cs) = walkD ms day o t cs := by
  obtain ⟨m, hm, et, h⟩ := h
  have et : m.t + turn * day = t := by omega
  conv => lhs; unfold walkD
  dsimp only
  rw [show ((n : Int)).toNat = n from by simp, hm]
  dsimp only
  rw [et]
  rcases h with ⟨rfl, rfl⟩ | ⟨rfl, rfl⟩
  · rw [if_pos ⟨by omega, h0, .inl rfl, lt⟩, if_pos rfl]
  · rw [if_pos ⟨by omega, h0, .inr rfl, lt⟩, if_neg fun z => ne z]
def muD (n : Nat) (E : Fn) (σ : St) : Nat := match σ[8]? with
  | some (some (V.int v)) => (match E v.toNat with
    | some e => rankE n E e
    | none => 0)
  | _ => 0
theorem agF_self {ms : List M4} {day first x : Int} {k : Nat} : ∀ r, agF ms day first (lone k x) r k = some x
  | 0 => by show lone k x k = some x; unfold lone; rw [if_pos rfl]
  | r + 1 => by rw [agF_succ]; exact fold_keep (agF_self r)
end Sm
set_option Elab.async false
set_option linter.all false
set_option maxRecDepth 100000
set_option maxHeartbeats 400000
namespace Sm
open PySem L2 SmSort
structure DE (ms : List M4) (day : Int) (k : Nat) (x : Int) (E : Fn) : Prop where
  self : E k = some x
  low : ∀ i t, E i = some t → x ≤ t
  orig : ∀ i t, i ≠ k → E i = some t → ∃ u ∈ ways2 ms, ∃ turn : Int, u.o = i ∧ u.t + turn * day = t ∧ ∃ y, E u.g = some y ∧ y < t
  clos : ∀ u ∈ ways2 ms, ∀ (turn y : Int), E u.g = some y → y < u.t + turn * day → ∃ e, E u.o = some e ∧ e ≤ u.t + turn * day
section
variable {ms : List M4} {day : Int} {k k' : Nat} {x x' : Int} {E E' : Fn}
theorem DE.ind (h : DE ms day k x E) {P : Nat → Int → Prop} (h0 : P k x) (hs : ∀ u ∈ ways2 ms, ∀ (turn y : Int), u.o ≠ k → E u.g = some y → y < u.t + turn * day → E u.o = some (u.t + turn * day) → P u.g y → P u.o (u.t + turn * day)) : ∀ i t, E i = some t → P i t := by
  have key : ∀ (n : Nat) (i : Nat) (t : Int), (t - x).toNat = n → E i = some t → P i t := by
    intro n
    induction n using Nat.strongRecOn with
    | _ n ih =>
      intro i t en e
      by_cases c : i = k
      · subst c
        rw [h.self] at e; cases e
        exact h0
      · obtain ⟨u, hu, turn, rfl, rfl, y, hy, ly⟩ := h.orig i t c e
        have := h.low _ _ hy
        exact hs u hu turn y c hy ly e (ih (y - x).toNat (by omega) u.g y rfl hy)
  exact fun i t e => key _ i t rfl e
theorem DE.set (h : DE ms day k x E) {S : Nat → Prop} (hk : S k) (cl : ∀ u ∈ ways2 ms, S u.g → S u.o) : ∀ i t, E i = some t → S i :=
  fun i t e => h.ind (P := fun i _ => S i) hk (fun u hu _ _ _ _ _ _ ih => cl u hu ih) i t e
theorem DE.shut (h : DE ms day k x E) (d1 : 1 ≤ day) : ∀ u ∈ ways2 ms, E u.g ≠ none → E u.o ≠ none := fun u hu hg => by
  obtain ⟨y, hy⟩ := Option.ne_none_iff_exists'.mp hg
  obtain ⟨e, he, _⟩ := h.clos u hu (y - u.t + 1 + (if 0 ≤ y - u.t + 1 then 0 else 0) |>.toNat : Nat) y hy (by
    have hn : y - u.t + 1 ≤ ((y - u.t + 1 + (if 0 ≤ y - u.t + 1 then 0 else 0)).toNat : Int) := by split <;> omega
    have h0 : (0 : Int) ≤ ((y - u.t + 1 + (if 0 ≤ y - u.t + 1 then 0 else 0)).toNat : Int) := Int.natCast_nonneg _
    have := Int.mul_le_mul_of_nonneg_left d1 h0
    rw [Int.mul_one] at this
    omega)
  rw [he]; exact fun z => nomatch z
theorem DE.same (h : DE ms day k x E) (h' : DE ms day k x' E') (d1 : 1 ≤ day) (i : Nat) : E i = none ↔ E' i = none := by
  have key : ∀ {E E' : Fn} {x x' : Int}, DE ms day k x E → DE ms day k x' E' → E i = none → E' i = none := fun {E E' x x'} a b e => by
    cases q : E' i with
    | none => rfl
    | some t =>
      exact absurd e (b.set (S := fun i => E i ≠ none) (by rw [a.self]; exact fun z => nomatch z) (a.shut d1) i t q)
  exact ⟨key h h', key h' h⟩
end
theorem again_sorted {ms : List M4} {day first : Int} (d1 : 1 ≤ day) (o : ms.Pairwise fun a b => a.t ≤ b.t) (each : ∀ m ∈ ms, 1 ≤ m.t ∧ m.t ≤ day) : ∀ N, (again ms day first N).Pairwise (fun a b => a.t ≤ b.t) ∧ ∀ m ∈ again ms day first N, m.t ≤ (first + N) * day
  | 0 => ⟨.nil, fun _ h => nomatch h⟩
  | N + 1 => by
    obtain ⟨p, q⟩ := again_sorted (first := first) d1 o each N
    have e2 : (first + ((N + 1 : Nat) : Int)) * day = (first + N) * day + day := by
      rw [show first + ((N + 1 : Nat) : Int) = (first + N) + 1 by omega, Int.add_mul, Int.one_mul]
    refine ⟨?_, fun m hm => ?_⟩
    · show (again ms day first N ++ ms.map (M4.late ((first + N) * day))).Pairwise _
      rw [List.pairwise_append]
      refine ⟨p, ?_, fun a ha b hb => ?_⟩
      · rw [List.pairwise_map]
        exact o.imp fun {a b} h => by show a.t + _ ≤ b.t + _; omega
      · obtain ⟨m, hm, rfl⟩ := List.mem_map.mp hb
        have := q a ha
        have := each m hm
        show a.t ≤ m.t + (first + N) * day
        omega
    · rcases List.mem_append.mp (show m ∈ again ms day first N ++ _ from hm) with h | h
      · have := q m h; omega
      · obtain ⟨m', hm', rfl⟩ := List.mem_map.mp h
        have := each m' hm'
        show m'.t + (first + N) * day ≤ _
        omega
theorem again_ways {ms : List M4} {day first : Int} : ∀ {N : Nat} {w : W3}, w ∈ ways2 (again ms day first N) → ∃ u ∈ ways2 ms, ∃ c : Nat, c < N ∧ w = u.late ((first + c) * day)
  | 0, w, h => by cases h
  | N + 1, w, h => by
    have e : ways2 (again ms day first (N + 1)) = ways2 (again ms day first N) ++ (ways2 ms).map (W3.late ((first + N) * day)) := by
      rw [← ways2_late]
      unfold ways2
      rw [← List.flatMap_append]; rfl
    rw [e] at h
    rcases List.mem_append.mp h with h | h
    · obtain ⟨u, hu, c, hc, rfl⟩ := again_ways h
      exact ⟨u, hu, c, by omega, rfl⟩
    · obtain ⟨u, hu, rfl⟩ := List.mem_map.mp h
      exact ⟨u, hu, N, by omega, rfl⟩
theorem again_has {ms : List M4} {day first : Int} {u : W3} (hu : u ∈ ways2 ms) : ∀ {N c : Nat}, c < N → u.late ((first + c) * day) ∈ ways2 (again ms day first N)
  | 0, _, h => absurd h (Nat.not_lt_zero _)
  | N + 1, c, h => by
    have e : ways2 (again ms day first (N + 1)) = ways2 (again ms day first N) ++ (ways2 ms).map (W3.late ((first + N) * day)) := by
      rw [← ways2_late]
      unfold ways2
      rw [← List.flatMap_append]; rfl
    rw [e]
    rcases Nat.lt_or_ge c N with l | l
    · exact List.mem_append_left _ (again_has hu l)
    · have : c = N := by omega
      subst this
      exact List.mem_append_right _ (List.mem_map.mpr ⟨u, hu, rfl⟩)
theorem agDE {n k : Nat} {ms : List M4} {day x : Int} (g : Good n ms) (hk : k < n) (d1 : 1 ≤ day) (hd : ∀ m ∈ ms, m.t ≤ day) : DE ms day k x (agF ms day (x / day) (lone k x) n) := by
  have each : ∀ m ∈ ms, 1 ≤ m.t ∧ m.t ≤ day := fun m hm => ⟨(g.each m hm).2.2.2.1, hd m hm⟩
  have D : DayOk ms day (x / day) x := DayOk.mk' d1 each
  have low : ∀ i t, agF ms day (x / day) (lone k x) n i = some t → x ≤ t := fun i t e => since_le e
  refine ⟨agF_self n, low, fun i t c e => ?_, fun u hu turn y hy ly => ?_⟩
  · obtain ⟨w, hw, e1, e2, y, hy, ly⟩ := run_from (ws := ways2 (again ms day (x / day) n)) (st := lone k x) e (by unfold lone; rw [if_neg c])
    obtain ⟨u, hu, cc, _, rfl⟩ := again_ways hw
    exact ⟨u, hu, x / day + cc, e1, e2, y, hy, ly⟩
  · obtain ⟨m, hm, et⟩ := way_in hu
    have em := each m hm
    have lx := low _ _ hy
    have Dl := D.lo
    -- the turn is no earlier than the first one
    have ht : x / day ≤ turn := by
      rcases Int.lt_or_le turn (x / day) with l | l
      · exfalso
        have := mul_le_of (show turn + 1 ≤ x / day by omega) (show 0 ≤ day by omega)
        have m1 : (turn + 1) * day = turn * day + day := by rw [Int.add_mul, Int.one_mul]
        omega
      · exact l
    obtain ⟨c, hc⟩ := Int.eq_ofNat_of_zero_le (show 0 ≤ turn - x / day by omega)
    have et2 : turn = x / day + c := by omega
    subst et2
    have en := agF_end (ways_in g) hk D (c + 1)
    rw [← en] at hy ⊢
    have hw := again_has (first := x / day) (day := day) hu (show c < n + (c + 1) by omega)
    exact run_closed (ws := ways2 (again ms day (x / day) (n + (c + 1)))) (st := lone k x) (fun w hw => by
        obtain ⟨u, hu, _, _, rfl⟩ := again_ways hw
        exact (ways2_mem g hu).2.2.2.2) (ways2_pw (again_sorted d1 g.ord.2 each _).1) (fun a _ i y h => .inr fun j hj => by
        unfold lone at h hj
        by_cases e : i = k
        · by_cases e' : j = k
          · rw [e, e']
          · rw [if_neg e'] at hj; exact absurd rfl hj
        · rw [if_neg e] at h; cases h) _ hw y hy ly
end Sm
set_option Elab.async false
set_option linter.all false
set_option maxRecDepth 100000
set_option maxHeartbeats 400000
namespace L2
open PySem PySem.Spec PyProof.Rows
section
variable {X : Cx} {pins : List (Addr × Obj)} {σ : St} {H : Hp} {s : Shared}
theorem vals_at {xs : List V} {us : List Value} (r : Vals xs us) {j : Nat} (h : j < us.toArray.size) : ∃ x, xs[j]? = some x ∧ RelV x us.toArray[j] := by
  have hl := r.length
  simp only [List.size_toArray] at h
  have a1 : j < xs.length := by omega
  obtain ⟨u, eu, ru⟩ := r.get (i := j) (x := xs[j]) (by simp [a1])
  have e1 : us.toArray[j] = u := by rw [List.getElem_toArray]; exact Option.some.inj ((List.getElem?_eq_getElem h).symm.trans eu)
  exact ⟨xs[j], by simp [a1], by rw [e1]; exact ru⟩
end
end L2
set_option Elab.async false
set_option linter.all false
set_option maxRecDepth 100000
set_option maxHeartbeats 400000
namespace HT
open PySem PySem.Spec PyProof.Rows
end HT
namespace L2
open PySem PySem.Spec PyProof.Rows
section
variable {X : Cx}
end
end L2
namespace Sm
open PySem L2 SmSort
def toldStep (T : Int → Option Int) (ts : List (Int × Int)) (a : Int) : List (Int × Int) := match T a with
  | none => ts
  | some y => if ts.getLast?.map (·.2) = some y then ts else ts ++ [(a, y)]
def toldF (T : Int → Option Int) (as : List Int) : List (Int × Int) := as.foldl (toldStep T) []
end Sm
set_option Elab.async false
set_option linter.all false
set_option maxRecDepth 100000
set_option maxHeartbeats 400000
namespace Sm
open PySem L2 SmSort
theorem nums_mem {ms : List M4} {w : Int} : ∀ {i : Nat} {j : Int}, j ∈ numsTo ms w i → ∃ n : Nat, j = n ∧ n < i ∧ ∃ r, ms[n]? = some r ∧ hasW w r = true
  | 0, j, h => by cases h
  | i + 1, j, h => by
    unfold numsTo at h
    rcases List.mem_append.mp h with h | h
    · obtain ⟨n, e, l, r⟩ := nums_mem h
      exact ⟨n, e, by omega, r⟩
    · split at h
      · rename_i c
        cases List.mem_singleton.mp h
        cases q : ms[i]? with
        | none => rw [q] at c; cases c
        | some r => rw [q] at c; exact ⟨i, rfl, by omega, r, q, c⟩
      · cases h
def whenOf (ms : List M4) (j : Int) : Int := ((ms[j.toNat]?).map (·.t)).getD 0
def whens (ms : List M4) (k : Nat) : List Int := (numsTo ms k ms.length).map (whenOf ms)
theorem whenOf_nat {ms : List M4} {n : Nat} {r : M4} (h : ms[n]? = some r) : whenOf ms (n : Int) = r.t := by
  unfold whenOf
  rw [Int.toNat_natCast, h]; rfl
theorem whens_mem {w : Int} {ms : List M4} (g : Good w ms) {k : Nat} {x : Int} (h : x ∈ whens ms k) : ∃ m ∈ ms, m.t = x := by
  obtain ⟨j, hj, rfl⟩ := List.mem_map.mp h
  obtain ⟨n, rfl, l, r, hr, _⟩ := nums_mem hj
  exact ⟨r, List.mem_of_getElem? hr, (whenOf_nat hr).symm⟩
def tOf (ms : List M4) (day : Int) (n k w : Nat) (s : Int) : Option Int := agF ms day (s / day) (lone k s) n w
def anch (ms : List M4) (day : Int) (k : Nat) : List Int := 0 :: (whens ms k).filter fun x => decide (x ≠ day)
section
variable {n k w : Nat} {ms : List M4} {day : Int}
end
def nextOf (ts : List (Int × Int)) (b : Int) (k : Nat) : Int := match ts[k + 1]? with
  | some q => q.1
  | none => b
def spWaits : Sp := fun vs H Q _ => ∃ b, ∃ day : Int, ∃ k w : Nat, ∃ rooms tr tm ps, vs = [.ref b, .int day, .int k, .int w] ∧ BookAt H b rooms tr tm ps ∧ rooms.length ≤ 1000 ∧ Good rooms.length (ps.map (·.2)) ∧ k < rooms.length ∧ w < rooms.length ∧ 1 ≤ day ∧ day ≤ 1000000 ∧ (∀ m ∈ ps.map (·.2), m.t ≤ day) ∧
  (tOf (ps.map (·.2)) day rooms.length k w 0 = none → ∀ H', Same H H' → Q .non H') ∧
  ∀ l (qs : List (Addr × Int × Int)) H', tOf (ps.map (·.2)) day rooms.length k w 0 ≠ none → H l = none → Same H H' → H' l = some (.lst (qs.map fun a => V.ref a.1)) → (∀ a ∈ qs, H' a.1 = some (.tup [.int a.2.1, .int a.2.2])) → qs.map (·.2) = toldF (tOf (ps.map (·.2)) day rooms.length k w) (anch (ps.map (·.2)) day k) → Q (.ref l) H'
theorem told_len {T : Int → Option Int} : ∀ (as : List Int) (ts : List (Int × Int)), (as.foldl (toldStep T) ts).length ≤ ts.length + as.length
  | [], ts => Nat.le_refl _
  | a :: as, ts => by
    have h := told_len (T := T) as (toldStep T ts a)
    have h2 : (toldStep T ts a).length ≤ ts.length + 1 := by
      unfold toldStep
      split
      · omega
      · split
        · omega
        · rw [List.length_append, List.length_singleton]; omega
    show (as.foldl (toldStep T) (toldStep T ts a)).length ≤ _
    rw [List.length_cons]
    omega
theorem anch_len {ms : List M4} {day : Int} {k : Nat} : (anch ms day k).length ≤ ms.length + 1 := by
  unfold anch whens
  have h1 := numsTo_len ms k ms.length
  have h2 := List.length_filter_le (fun x => decide (x ≠ day)) ((numsTo ms k ms.length).map (whenOf ms))
  rw [List.length_map] at h2
  rw [List.length_cons]
  omega
end Sm
set_option Elab.async false
set_option linter.all false
set_option maxRecDepth 100000
set_option maxHeartbeats 4000000
namespace Sm
open PySem L2 SmSort
theorem ahead {n : Nat} {ms : List M4} {m : M4} (g : Good n (ms ++ [m])) {v : Nat} {x y : Int} {i : Nat} (hi : i ≠ v) (h : fwd ms (lone v x) i = some y) : y ≤ m.t ∧ ((i = m.lo.toNat ∨ i = m.hi.toNat) → y < m.t) := by
  obtain ⟨a, ha, ao, at', _⟩ := run_from (ws := ways2 ms) h (by simp [lone, hi])
  unfold ways2 at ha
  obtain ⟨c, hc, hx⟩ := List.mem_flatMap.mp ha
  have od := (List.pairwise_append.mp g.order).2.2 c hc m (by simp)
  obtain ⟨c1, c2, c3, _⟩ := g.each c (by simp [hc])
  obtain ⟨m1, m2, m3, _⟩ := g.each m (by simp)
  unfold two at hx
  simp only [List.mem_cons, List.not_mem_nil, or_false] at hx
  have ct : c.t = y := by rcases hx with rfl | rfl <;> exact at'
  have ci : i = c.lo.toNat ∨ i = c.hi.toNat := by
    rcases hx with rfl | rfl
    · exact .inr ao.symm
    · exact .inl ao.symm
  refine ⟨by rcases od with h | h <;> omega, fun hm => ?_⟩
  rcases od with h | ⟨h1, h2, h3, h4, h5, h6⟩
  · omega
  · exfalso
    rcases ci with e | e <;> rcases hm with e' | e' <;> omega
end Sm
set_option Elab.async false
set_option linter.all false
set_option maxRecDepth 100000
set_option maxHeartbeats 4000000
namespace L2
open PySem PySem.Spec PyProof.Rows
section
variable {X : Cx} {pins : List (Addr × Obj)} {σ : St} {H : Hp} {s : Shared}
theorem ps_setComp {ix : Nat} {xn : Str} {pos' spos : Pos} {own : List Str} {caps : List Nat} {elt tg iter : Expr} {ifs : List Expr} {scope : Scope} {pos : Pos} {wi : TI} {g : TG} {tc : TT} {te : TE} (hN : X.N.Nodup) (hix : X.N[ix]? = some xn) (hxl : Loc X.env.scope xn) (hc : X.calm = true) (S : CompScope own caps X.N X.env.scope scope) (hi : PI X tg iter wi)
    (hg : ∀ s H fp C, PG (cxComp X own caps scope s H fp C) tg g) (ht : ∀ s H fp C, PTs (cxComp X own caps scope s H fp C) ifs tc) (he : ∀ s H fp C, PE (cxComp X own caps scope s H fp C) elt te)
    (hs : ∀ x, foldedSetIterable iter X.env x = pure x := by intro _; rfl) (hsw : swapsWith (.ListComp elt [⟨tg, iter, ifs, 0⟩] scope pos) (some (.Name xn pos')) spos.line X.env = pure true := by rfl)
    (hf : X.fn xn = true ∨ X.env.scope.names.lookup xn = some .local := by first | exact .inl rfl | exact .inr rfl | assumption) :
    PS X (.Assign [.Name xn pos'] (.ListComp elt [⟨tg, iter, ifs, 0⟩] scope pos) spos) (tAsg (tComp own.length caps wi g tc te) (gName ix)) := by
  intro pins s σ H D0 I h
  rw [exec_Assign_Name_used _ _ _ _ hsw, arm_evalThenUse_ListComp]
  suffices main : wpAny (model X.prog X.w) X.A (comprehension (.ListComp elt [⟨tg, iter, ifs, 0⟩] scope pos) scope X.env (firstIterPos [⟨tg, iter, ifs, 0⟩] pos) (newList []) false (eval iter X.env) (some (assign (.Name xn pos') X.env))) (fun _ s1 => SP X pins D0 .next s1) X.xe s from
    wpAny_bind (wpAny_standAt (wpAny_bind (wpAny_bind (wpAny_mono main (fun _ s1 h => wpAny_pure (wpAny_pure h)) fun _ _ e => e))))
  refine wpAny_comprehension_free (use := some _) (cl := clOf scope.names X.env []) rfl hs (closureFor_eq fun y hy e => I.ok.has y.1 (S.fr y hy e)) S.kind S.loc
    (wpAny_mono (hi pins s σ H _ I h) (fun v s1 h1 => thn h1 fun itv s2 h2 => ?_) fun _ _ e => e)
  obtain ⟨it, fp, tn, J, H2, e, I2, T, st2, f2, W, ⟨m0, w0⟩, turn⟩ := h2
  subst e
  refine wpAny_newObj_type (wpAny_newFunctionEnv S.nocell (by intro y hy; simp at hy) (fun h₁ hns₁ hsb₁ => ?_) S.kind)
  dsimp only at hns₁ hsb₁ ⊢
  generalize hH2 : s2.heap.push { cls := .type "list", dict := none, data := .seq ([] : List Value).toArray } = G at hns₁ hsb₁ ⊢
  have hG : G.objs.size = s2.heap.objs.size + 1 := by rw [← hH2, Heap.size_push]
  have hDC : s2.heap.objs.size ≠ G.objs.size := by rw [hG]; exact Nat.ne_of_lt (Nat.lt_succ_self _)
  have hCle : s2.heap.objs.size ≤ G.objs.size := by rw [hG]; exact Nat.le_succ _
  have below : ∀ b, b < s2.heap.objs.size → b ≠ G.objs.size := fun b hb => by rw [hG]; exact Nat.ne_of_lt (Nat.lt_succ_of_lt hb)
  have old : ∀ b o, s2.heap.get? b = some o → h₁.get? b = some o := fun b o e => hsb₁.extBut b o (below b (Heap.lt_size e)) (Heap.get?_push_of_some _ (hH2 ▸ Heap.get?_push_of_some _ e))
  have hacc : h₁.get? s2.heap.objs.size = some { cls := .type "list", dict := none, data := .seq ([] : List Value).toArray } := hsb₁.extBut _ _ hDC (Heap.get?_push_of_some _ (hH2 ▸ Heap.get?_push_size _ rfl))
  have fl : ∀ b ∈ fp, b < s2.heap.objs.size := fun b hb => let ⟨o, e, _⟩ := T.obj _ _ st2 b hb; Heap.lt_size e
  have hns₁' : h₁.Ns G.objs.size fun _ => none := hns₁
  have I4 := inv_comp (tk := s2.toks + ([] : List (Str × Value)).length) I2 S f2 fl (Nat.le_refl _) hCle hDC old hns₁' hacc (fun v z => nomatch z)
  have st4 : tn 0 h₁ := T.keep _ _ _ st2 fun b _ o e => old b o e
  generalize hs4 : ({ s2 with heap := h₁, toks := s2.toks + ([] : List (Str × Value)).length } : Shared) = s4 at I4 ⊢
  have e4 : s4.heap = h₁ := by rw [← hs4]
  rw [← e4] at st4
  -- the loop
  have loop : codeAny (model X.prog X.w) X.A (.compLoop (.ListComp elt [⟨tg, iter, ifs, 0⟩] scope pos) 0 (.ref it) (.ref s2.heap.objs.size) (compEnvC scope (clOf scope.names X.env []) G.objs.size X.env))
      (compPost (model X.prog X.w) X.A X.xe (some (assign (.Name xn pos') X.env)) (fun _ s1 => SP X pins D0 .next s1) (.ref s2.heap.objs.size) G.objs.size) s4 := by
    let Y := cxComp X own caps scope s2 H2 fp G.objs.size
    have stat : ∀ {H' : Hp} {its : List Value} {n : Nat}, (∀ b ∈ fp, H' b = none) → ∀ b ∈ fp, FpOk Y [(s2.heap.objs.size, ({ cls := .type "list", data := .seq its.toArray n } : Obj))] H' b := fun {H' its n} hn b hb => by
      refine ⟨hn b hb, below b (fl b hb), fun z => ?_, .inl hb, fun x c e => (f2 b hb).2.2.2.2.1 x c (clOf_lookup e), fun p hp => ?_⟩
      · rcases List.mem_cons.mp (I2.stkSub b z) with e | e
        · exact (f2 b hb).2.1 e
        · exact (f2 b hb).2.2.1 e
      · have e : p = (s2.heap.objs.size, ({ cls := .type "list", data := .seq its.toArray n } : Obj)) := by simpa using (show p ∈ [] ++ [_] from hp)
        subst e
        exact Nat.ne_of_gt (fl b hb)
    refine loop_comp (fun n s' => ∃ i τ acc its k H', Inv Y [(s2.heap.objs.size, ({ cls := .type "list", data := .seq its.toArray k } : Obj))] τ H' s' ∧ tn i s'.heap ∧ (∀ b ∈ fp, H' b = none) ∧ Vals acc its ∧ W i n τ acc H') ?_ m0
      ⟨0, _, [], [], 0, H2, I4, st4, fun b hb => (f2 b hb).1, .nil, w0⟩
    rintro n s5 ⟨i, τ, acc, its, k, H5, I5, st5, fr5, rv5, w5⟩
    rcases turn i n τ acc H5 w5 with ⟨stop, hz, q⟩ | ⟨go, hz, step⟩
    · refine thn (T.done Y rfl rfl rfl hc i _ s5 τ H5 (fun _ _ => False) I5 (stat fr5) st5 stop) fun r s6 ⟨hr, I6⟩ => ?_
      subst hr
      obtain ⟨eD, nD, _, _, _⟩ := I6.pin _ (List.mem_append_right _ (List.mem_singleton.mpr rfl))
      obtain ⟨m6, hm6, _⟩ := I6.loc
      have hC6 : H5 G.objs.size = none := I6.free
      have hok6 : HOk X.prog X.w H5 s6.heap := I6.hok
      have ub := I6.base
      have IX : Inv X pins σ (upd H5 s2.heap.objs.size (.lst acc)) s6 := by
        refine I2.call' (ch := fp) (s' := s6) I6.os ⟨fun b o e n' hb hx => ub.keep b o e n' hb hx, fun b o e n' hb hx => ?_, fun b o e n' hx => ?_, fun b o e hx => ?_, fun b xs e => ?_, fun b o u e => ?_, fun b ps e => ?_⟩
          (hok6.track nD ⟨hz, its, k, rv5, eD⟩) I6.bare fun b hb => ⟨(f2 b hb).2.2.2.1, (f2 b hb).2.1, (f2 b hb).2.2.2.2.1, (f2 b hb).2.2.2.2.2⟩
        · exact ub.slot b o e n' hb hx
        · rw [upd_ne (Nat.ne_of_lt (Heap.lt_size e))]
          exact ub.free b o e n' hx
        · exact ub.there b o e hx
        · have z := ub.tups b xs e
          rw [upd_ne (ne_of_none z nD)]; exact z
        · have z := ub.frzs b o u e
          rw [upd_ne (ne_of_none z nD)]; exact z
        · obtain ⟨more, z⟩ := ub.tbls b ps e
          exact ⟨more, by rw [upd_ne (ne_of_none z nD)]; exact z⟩
      have hCX : (upd H5 s2.heap.objs.size (.lst acc)) G.objs.size = none := by rw [upd_ne (Ne.symm hDC)]; exact hC6
      have fC : FpOk X pins (upd H5 s2.heap.objs.size (.lst acc)) G.objs.size := I2.fpOk hCle hCX
      obtain ⟨oC, esC, epC, gC, dC, rC⟩ := hm6
      have IP := IX.pinned (fp := [G.objs.size]) (fun b hb => by cases List.mem_singleton.mp hb; exact fC) (fun b hb => by cases List.mem_singleton.mp hb; exact ⟨oC, gC, fun v z => by rw [dC] at z; cases z⟩)
      refine wpAny_assign_Name (store_ok IP hN hix hxl (v := .ref s2.heap.objs.size) rfl (fun s7 I7 => ?_) hf)
      have pC := (I7.pin (G.objs.size, oC) (List.mem_append_right _ (List.mem_append_right _ (mem_pinsAt (List.mem_singleton.mpr rfl) gC)))).1
      refine ⟨m6, ⟨oC, esC, epC, pC, dC, rC⟩, fun h' hsb => ?_⟩
      have I8 : Inv X pins (σ.set ix (some (.ref s2.heap.objs.size))) (upd H5 s2.heap.objs.size (.lst acc)) { s7 with heap := h' } := I7.unpinned.turned (t' := s7.toks) (fun b o hb e => hsb.extBut b o hb e) fC.1 fC.2.1 fC.2.2.2.1 fC.2.2.2.2.1 fC.2.2.2.2.2
      exact ⟨_, _, I8, q _ nD⟩
    · refine thn (T.item Y rfl rfl rfl hc i _ s5 τ H5 (fun _ _ => False) I5 (stat fr5) st5 go) fun r s6 ⟨u, hr, h6⟩ => ?_
      subst hr
      refine thn h6 fun _ s7 ⟨x, H7, I7, r7, y7, st7, fr7⟩ => ?_
      have I7' := I7.pinned (stat fr7) (T.obj _ _ st7)
      refine thn (hg s2 H2 fp G.objs.size _ s7 τ H7 x u _ I7' r7 (step x H7 y7)) fun _ s8 ⟨τ8, H8, I8, q8⟩ => ?_
      refine thn (ht s2 H2 fp G.objs.size _ s8 τ8 H8 _ I8 q8) fun ok s9 ⟨H9, I9, q9⟩ => ?_
      -- the iterator's state behind the turn
      have back : ∀ {s' : Shared} {τ' : St} {H' : Hp}, Inv Y ([(s2.heap.objs.size, ({ cls := .type "list", data := .seq its.toArray k } : Obj))] ++ pinsAt fp s7.heap) τ' H' s' → (tn (i + 1) s'.heap ∧ ∀ b ∈ fp, H' b = none) := fun {s' τ' H'} Ib =>
        ⟨T.keep _ _ _ st7 fun b hb o e => (Ib.pin (b, o) (List.mem_append_right _ (List.mem_append_right _ (mem_pinsAt hb e)))).1, fun b hb => by
          obtain ⟨o, e, d⟩ := T.obj _ _ st7 b hb
          exact (Ib.pin (b, o) (List.mem_append_right _ (List.mem_append_right _ (mem_pinsAt hb e)))).2.1⟩
      cases ok with
      | false =>
        obtain ⟨m', hm', w'⟩ := q9
        obtain ⟨sb, fb⟩ := back I9
        exact ⟨m', hm', i + 1, τ8, acc, its, k, H9, I9.unpinned, sb, fb, rv5, w'⟩
      | true =>
        refine thn (he s2 H2 fp G.objs.size _ s9 τ8 H9 _ I9 q9) fun y s10 ⟨yv, H10, I10, r10, q10⟩ => ?_
        obtain ⟨m', hm', w'⟩ := q10
        obtain ⟨sb, fb⟩ := back I10
        obtain ⟨eD, nD, neD, nfD, _⟩ := I10.pin (s2.heap.objs.size, _) (List.mem_append_right _ (List.mem_append_left _ (List.mem_singleton.mpr rfl)))
        have hl : acc.length = its.length := rv5.length
        refine call_meets F.slot_list_append ⟨_, eD, rfl⟩ F.entry_list_append (F.args_list_append_2 _ _) (PySem.list_append s2.heap.objs.size its.toArray k y (by rw [List.size_toArray]; omega)) ⟨eD, ?_⟩
        have q := PySem.IsL.update eD (fun a : Array Value => a.push y)
        have Iu : Inv Y [] τ8 H10 s10 := I10.pins_of fun p hp => nomatch hp
        have It := Iu.turned (t' := s10.toks) (it := s2.heap.objs.size) (h' := s10.heap.update s2.heap.objs.size (Obj.mapSeq (fun a : Array Value => a.push y))) (fun b o hb e => (Heap.get?_update_other s10.heap _ (Ne.symm hb)).trans e) nD neD (.inr (Nat.le_refl _))
          (fun x c e z => by
            obtain ⟨v, ob, hob, _⟩ := I2.cell x c (clOf_lookup e)
            exact absurd (Heap.lt_size hob) (by rw [z]; exact Nat.lt_irrefl _)) (fun p hp => nomatch hp)
        have It' := It.pins_of (pins' := [(s2.heap.objs.size, ({ cls := .type "list", data := .seq (its ++ [y]).toArray (k + 1) } : Obj))]) fun p hp => by
          have e : p = _ := List.mem_singleton.mp hp
          subst e
          exact ⟨by simpa using q, nD, neD, nfD, fun v z => nomatch z⟩
        refine ⟨m', hm', i + 1, τ8, acc ++ [yv], its ++ [y], _, H10, It', T.keep _ _ _ sb fun b hb o e => (Heap.get?_update_other s10.heap _ (Nat.ne_of_gt (fl b hb))).trans e, fb, rv5.append (.cons r10 .nil), w'⟩
  exact codeAny_compStart_list loop (T.self _ 0 s4 _ _ st4 loop)
end
end L2
set_option Elab.async false
set_option linter.all false
set_option maxRecDepth 100000
set_option maxHeartbeats 400000
namespace L2
open PySem PySem.Spec PyProof.Rows
section
variable {P : Program} {w : World} {H H' : Hp} {h : Heap} {a : Addr} {o : HO}
theorem ObjOk.has (x : ObjOk P w H h a o) : ∃ u, h.get? a = some u := by
  cases o with
  | lst xs => obtain ⟨_, _, _, _, e⟩ := x; exact ⟨_, e⟩
  | tup xs => obtain ⟨_, _, _, u, e, _⟩ := x; exact ⟨u, e⟩
  | dK kvs => obtain ⟨_, _, _, _, u, _, _, e, _⟩ := x; exact ⟨u, e⟩
  | dT kvs => obtain ⟨_, _, _, _, u, _, _, e, _⟩ := x; exact ⟨u, e⟩
  | set S n => obtain ⟨u, _, _, _, e, _⟩ := x; exact ⟨u, e⟩
  | ins C dx fs => obtain ⟨_, _, _, e, _⟩ := x; exact ⟨_, e⟩
  | own y => exact x
  | xd fs => obtain ⟨_, ⟨u, _, _, e, _⟩, _⟩ := x; exact ⟨u, e⟩
  | rng lo hi => obtain ⟨_, _, _, e⟩ := x; exact ⟨_, e⟩
  | frz ob u => obtain ⟨e, _⟩ := x; exact ⟨_, e⟩
  | tbl ps => exact ⟨_, (show h.get? a = some _ from x)⟩
  | met f y => exact ⟨_, (show h.get? a = some _ from x)⟩
  | ext φ => exact x.2.1
end
structure XL (P : Program) (w : World) (l : List Env) (H : Hp) (s : Shared) (H' : Hp) (B : Heap) (s' : Shared) : Prop where
  os : s'.os = s.os
  bare : AllBare s'.gens
  keepB : ∀ b o, s.heap.get? b = some o → H b = none → b ∉ frs l → B.get? b = some o
  allB : ∀ b o, s.heap.get? b = some o → b ∉ frs l → ∃ o', B.get? b = some o'
  trkB : ∀ b u, H' b = some u → ∃ o, B.get? b = some o
  frm : ∀ b o, s.heap.get? b = some o → b ∈ frs l → ∃ sl, s'.heap.get? b = some { o with slots := sl }
  free : ∀ b o, s.heap.get? b = some o → H b = none → H' b = none
  tups : ∀ b xs, H b = some (.tup xs) → H' b = some (.tup xs)
  frzs : ∀ b o u, H b = some (.frz o u) → H' b = some (.frz o u)
  tbls : ∀ b ps, H b = some (.tbl ps) → ∃ more, H' b = some (.tbl (ps ++ more))
  hok : HOk P w H' s'.heap
  stays : B.StaysIn s'.heap
section
variable {P : Program} {w : World} {l : List Env} {H H' : Hp} {s s' : Shared} {B base : Heap}
theorem XL.un (x : XL P w l H s H' B s') : Un (frs l) [] H H' s.heap s'.heap where
  keep := fun b o e n hb _ => x.stays _ _ (x.keepB b o e n hb)
  slot := fun b o e n hb _ => x.frm b o e hb
  free := fun b o e n _ => x.free b o e n
  there := fun b o e _ => by
    by_cases hb : b ∈ frs l
    · obtain ⟨sl, q⟩ := x.frm b o e hb; exact ⟨_, q⟩
    · obtain ⟨o', q⟩ := x.allB b o e hb; exact ⟨o', x.stays _ _ q⟩
  tups := x.tups
  frzs := x.frzs
  tbls := x.tbls
theorem XL.step {h2 : Heap} (x : XL P w l H s H' B s') (ff : s.heap.FunFrames base l) (k : B.StaysIn h2) (u : s'.heap.UpToSlots h2) : XL P w l H s H' B { s' with heap := h2 } where
  os := x.os
  bare := x.bare
  keepB := x.keepB
  allB := x.allB
  trkB := x.trkB
  frm := fun b o e hb => by
    obtain ⟨sl, q⟩ := x.frm b o e hb
    obtain ⟨_, o1, e1, nf⟩ := ff.mem hb
    rw [e] at e1; cases e1
    obtain ⟨sl2, q2⟩ := u b _ q nf
    exact ⟨sl2, q2⟩
  free := x.free
  tups := x.tups
  frzs := x.frzs
  tbls := x.tbls
  hok := fun a o e => by
    have st : ∀ b v, H' b = some v → ∀ ob, s'.heap.get? b = some ob → h2.get? b = some ob := fun b v hv ob q => by
      obtain ⟨o1, e1⟩ := x.trkB b v hv
      have z := x.stays _ _ e1
      rw [q] at z; cases z
      exact k _ _ e1
    refine (x.hok a o e).stay (fun b v hb q => ?_) (fun _ q => q) fun _ _ q => q
    rcases hb with rfl | hb
    · exact st _ _ e _ q
    · exact st _ _ hb _ q
  stays := k
end
def TrD (h B : Heap) (e : Addr) (cls fl : Value) : Prop := ∃ oe vs T oT ts, h.get? e = some oe ∧ oe.cls = cls ∧ oe.dict = none ∧ oe.data = .fields vs ∧ vs[1]? = some (Value.ref T) ∧ B.get? T = none ∧ T ≠ e ∧ h.get? T = some oT ∧ oT.data = .fields ts ∧ ts[3]? = some fl
def MdD (h : Heap) (e : Addr) (cls : Value) : Prop := ∃ oe vs, h.get? e = some oe ∧ oe.cls = cls ∧ oe.dict = none ∧ oe.data = .fields vs ∧ vs[1]? = some Value.none
def CXE (P : Program) (w : World) : CXT := fun l H s E e s' => ∃ a cls H' B, e = Value.ref a ∧ XL P w l H s H' B s' ∧ B.get? a = none ∧ s'.heap.FunFrames B l ∧ TrD s'.heap B a cls Value.none ∧ E cls none H'
theorem passN {P : Program} {w : World} {X : Cx} : Passes (CXE P w) X E0 := fun _ _ _ _ _ _ _ ⟨_, _, _, _, _, _, _, _, _, q⟩ => q.elim
def FlyS (B : Heap) (env : Env) (outer : List Env) (a : Addr) (cls : Value) (h : Heap) : Prop :=
  B.get? a = none ∧ h.FunFrames B (env :: outer) ∧ (MdD h a cls ∨ TrD h B a cls Value.none ∨ ∃ L, env.frame = some L ∧ TrD h B a cls (rawInt L))
def WX (X : Cx) (E : XK) : Value → Shared → Prop := fun e s' => (X.A.frames = some (X.env :: X.outer) ∧ X.env.frame = some X.env.locals ∧ X.s₀.heap.FunFrames X.base X.outer) ∧ ∃ a cls H' B, e = Value.ref a ∧ XL X.prog X.w X.outer X.H₀ X.s₀ H' B s' ∧ FlyS B X.env X.outer a cls s'.heap ∧ E cls none H'
abbrev Cx.exc (X : Cx) (E : XK) : Cx := X.wish (WX X E)
theorem rec_far {h B : Heap} {T : Addr} {oT : Obj} {ts : Array Value} (hT : h.get? T = some oT) (hdT : oT.data = .fields ts) : ∀ b o, h.get? b = some o → (∀ vs, o.data ≠ .fields vs) → b ≠ T := fun b o e nf z => by
  subst z; rw [hT] at e; cases e; exact nf _ hdT
theorem laid_entry {g B : Heap} {e : Addr} {oe : Obj} {vs ts : Array Value} {fl : Value} (he : g.get? e = some oe) (hdc : oe.dict = none) (hd : oe.data = .fields vs) (sz : 1 < vs.size) (kb : B.StaysIn g) (h3 : ts[3]? = some fl) :
    (∀ b o, b ≠ e → g.get? b = some o → ((g.push { cls := .type "traceback", dict := none, data := .fields ts }).update e (Obj.mapFields (·.setIfInBounds 1 (Value.ref g.objs.size)))).get? b = some o) ∧
    TrD ((g.push { cls := .type "traceback", dict := none, data := .fields ts }).update e (Obj.mapFields (·.setIfInBounds 1 (Value.ref g.objs.size)))) B e oe.cls fl := by
  have he2 := Heap.get?_push_of_some (h := g) { cls := .type "traceback", dict := none, data := .fields ts } he
  have ne : g.objs.size ≠ e := fun z => absurd (Heap.lt_size he) (by rw [z]; exact Nat.lt_irrefl _)
  have hd3 := Obj.data_mapFields hd (·.setIfInBounds 1 (Value.ref g.objs.size))
  refine ⟨fun b o nb eb => ?_, _, _, g.objs.size, { cls := .type "traceback", dict := none, data := .fields ts }, ts, Heap.get?_update_self _ he2 (Obj.isFreed_of_fields hd3), Obj.cls_mapFields _ _, ?_, hd3, by simp [sz], kb.fresh, ne, ?_, rfl, h3⟩
  · rw [Heap.get?_update_other _ _ (Ne.symm nb)]; exact Heap.get?_push_of_some _ eb
  · obtain ⟨c0, d0, dt0, sl0⟩ := oe
    cases dt0 <;> first | exact hdc | cases hd
  · rw [Heap.get?_update_other _ _ (Ne.symm ne)]; exact Heap.get?_push_size g rfl
section
variable {M : Model} {A : Around} {Ex : Value → Shared → Prop} {s : Shared} {B : Heap} {env : Env} {outer : List Env} {a L : Addr} {cls : Value} {Q : Unit → Shared → Prop}
theorem entry_fly {oe : Obj} {vs : Array Value} {head : Value} {hn : Bool} (hfr : A.frames = some (env :: outer)) (hf : env.frame = some L) (hk : B.StaysIn s.heap) (hl : s.heap.FunFrames B (env :: outer)) (nb : B.get? a = none) (he : s.heap.get? a = some oe) (hdc : oe.dict = none) (hd : oe.data = .fields vs) (sz : 1 < vs.size)
    (q : ∀ h', B.StaysIn h' → s.heap.UpToSlots h' → h'.FunFrames B (env :: outer) → TrD h' B a oe.cls (rawInt L) → Q () { s with heap := h' }) :
    wpAny M A (do let v ← frameOf env; let pl ← entryPlaceOf L hn; let b ← EntryCells.newEntry head v .none (rawInt L) .none pl; setField (.ref a) 1 b) Q Ex s := by
  have nf : a ∉ (env :: outer).filterMap (·.frame) := fun hm => by
    obtain ⟨_, o, ho, z⟩ := hl.mem hm
    rw [he] at ho; cases ho; exact z vs hd
  refine wpAny_bind (wpAny_frameOf_fun hfr hl hf fun g sl => wpAny_bind (wpAny_entryPlaceOf fun pl ip => ?_))
  unfold EntryCells.newEntry newFields
  refine wpAny_bind (wpAny_newObj_type ?_ (ip.sizeOk5 _ _ _ _ _))
  have eg : g.get? a = some oe := (sl.2.1 a nf).trans he
  have kg : B.StaysIn g := fun b o e => (sl.2.1 b fun hm => by rw [(hl.mem hm).1] at e; cases e).trans (hk b o e)
  refine wpAny_setField (Heap.get?_push_of_some _ eg) hd sz ?_
  have y := laid_entry (B := B) (fl := rawInt L) (ts := ([head, Value.ref L, Value.none, rawInt L, Value.none] ++ (if pl.isEmpty then List.replicate 6 Value.none else pl)).toArray) eg hdc hd sz kg (by first | (simp; done) | (rcases ip with rfl | ⟨_, _, _, _, _, _, _, rfl⟩ <;> simp))
  have far := rec_far (B := B) he hd
  refine q _ (fun b o e => y.1 b o (fun z => by rw [z, nb] at e; cases e) (kg b o e)) (fun b o e nf => ?_) (hl.of_keeps fun b o e nf => ?_) y.2
  · obtain ⟨s2, e2⟩ := sl.2.2 b o e
    exact ⟨s2, y.1 b _ (far b o e nf) e2⟩
  · obtain ⟨s2, e2⟩ := sl.2.2 b o e
    exact ⟨_, y.1 b _ (far b o e nf) e2, rfl⟩
theorem set_entry {B : Heap} {h : Heap} {cls fl fl2 : Value} {oe oT : Obj} {vs ts : Array Value} {T : Addr} (he : h.get? a = some oe) (hc : oe.cls = cls) (hdc : oe.dict = none) (hd : oe.data = .fields vs) (h1 : vs[1]? = some (Value.ref T)) (hnT : B.get? T = none) (hTe : T ≠ a) (hT : h.get? T = some oT) (hdT : oT.data = .fields ts) (sz : 3 < ts.size) (hk : B.StaysIn h) (hl : h.FunFrames B (env :: outer)) :
    B.StaysIn (h.update T (Obj.mapFields (·.setIfInBounds 3 fl2))) ∧ h.UpToSlots (h.update T (Obj.mapFields (·.setIfInBounds 3 fl2))) ∧ (h.update T (Obj.mapFields (·.setIfInBounds 3 fl2))).FunFrames B (env :: outer) ∧ TrD (h.update T (Obj.mapFields (·.setIfInBounds 3 fl2))) B a cls fl2 ∧ (h.update T (Obj.mapFields (·.setIfInBounds 3 fl2))).get? a = some oe := by
  have far : ∀ b, b ≠ T → (h.update T (Obj.mapFields (·.setIfInBounds 3 fl2))).get? b = h.get? b := fun b hb => Heap.get?_update_other _ _ (Ne.symm hb)
  have nrec := rec_far (B := B) hT hdT
  have ea := (far a (Ne.symm hTe)).trans he
  exact ⟨fun b o e => (far b (fun z => by subst z; rw [hnT] at e; cases e)).trans (hk _ _ e), fun b o e nf => ⟨o.slots, (far b (nrec b o e nf)).trans e⟩, hl.of_keeps fun b o e nf => ⟨o, (far b (nrec b o e nf)).trans e, rfl⟩,
    ⟨oe, vs, T, _, _, ea, hc, hdc, hd, h1, hnT, hTe, Heap.get?_update_self _ hT (Obj.isFreed_of_fields (Obj.data_mapFields hdT _)), Obj.data_mapFields hdT _, by simp [sz]⟩, ea⟩
theorem note_fly (hfr : A.frames = some (env :: outer)) (hf : env.frame = some L) (hk : B.StaysIn s.heap) (x : FlyS B env outer a cls s.heap)
    (q : ∀ h', B.StaysIn h' → s.heap.UpToSlots h' → h'.FunFrames B (env :: outer) → TrD h' B a cls (rawInt L) → Q () { s with heap := h' }) : wpAny M A (noteFrame (.ref a) env) Q Ex s := by
  obtain ⟨hn, hl, ⟨oe, vs, he, hc, hdc, hd, h1⟩ | ⟨oe, vs, T, oT, ts, he, hc, hdc, hd, h1, hnT, hTe, hT, hdT, h3⟩ | ⟨L', hL, ht⟩⟩ := x
  · subst hc
    unfold noteFrame
    rw [hf]
    dsimp only
    refine wpAny_bind (wpAny_field (x := _) he hd h1 ?_)
    rw [if_neg (by decide)]
    exact entry_fly hfr hf hk hl hn he hdc hd (Array.getElem?_eq_some_iff.mp h1).1 q
  · have sz : 3 < ts.size := (Array.getElem?_eq_some_iff.mp h3).1
    obtain ⟨k2, u2, l2, _, e2⟩ := set_entry (fl := Value.none) (fl2 := Value.none) he hc hdc hd h1 hnT hTe hT hdT sz hk hl
    unfold noteFrame
    rw [hf]
    dsimp only
    refine wpAny_bind (wpAny_field (x := _) he hd h1 ?_)
    rw [if_pos (by simp)]
    refine wpAny_bind (wpAny_field (x := _) hT hdT h3 ?_)
    rw [if_neg (by simp [rawInt])]
    refine wpAny_bind (wpAny_setField hT hdT sz ?_)
    subst hc
    exact entry_fly hfr hf k2 l2 hn e2 hdc hd (Array.getElem?_eq_some_iff.mp h1).1 fun h' y1 y2 y3 y4 => q h' y1 (u2.trans y2) y3 y4
  · cases hL.symm.trans hf
    obtain ⟨oe, vs, T, oT, ts, he, hc, hdc, hd, h1, hnT, hTe, hT, hdT, h3⟩ := id ht
    unfold noteFrame
    rw [hf]
    dsimp only
    refine wpAny_bind (wpAny_field (x := _) he hd h1 ?_)
    rw [if_pos (by simp)]
    refine wpAny_bind (wpAny_field (x := _) hT hdT h3 ?_)
    rw [if_pos (by simp)]
    exact wpAny_pure (q s.heap hk (Heap.UpToSlots.refl _) hl ht)
theorem mark_fly {fl : Value} {fo : Option Addr} (hk : B.StaysIn s.heap) (hl : s.heap.FunFrames B (env :: outer)) (ht : TrD s.heap B a cls fl)
    (q : ∀ h', B.StaysIn h' → s.heap.UpToSlots h' → h'.FunFrames B (env :: outer) → TrD h' B a cls (fo.elim Value.none fun f => rawInt f) → Q () { s with heap := h' }) : wpAny M A (setFlight (.ref a) fo) Q Ex s := by
  obtain ⟨oe, vs, T, oT, ts, he, hc, hdc, hd, h1, hnT, hTe, hT, hdT, h3⟩ := ht
  have sz : 3 < ts.size := (Array.getElem?_eq_some_iff.mp h3).1
  obtain ⟨k2, u2, l2, t2, e2⟩ := set_entry (fl := fl) (fl2 := fo.elim Value.none fun f => rawInt f) he hc hdc hd h1 hnT hTe hT hdT sz hk hl
  unfold setFlight
  refine wpAny_bind (wpAny_field (x := _) he hd h1 ?_)
  rw [if_pos (by simp)]
  exact wpAny_setField hT hdT sz (q _ k2 u2 l2 t2)
end
section
variable {X : Cx} {E : XK}
theorem pass_own : PassesOwn (model X.prog X.w) X.A X.env (WX X E) := by
  rintro e s' ⟨⟨hst, hf, ff⟩, a, cls, H', B, rfl, x, y, q⟩
  refine note_fly hst hf x.stays y fun h1 k1 u1 l1 t1 => ?_
  obtain ⟨oe, vs, T, oT, ts, he, hc, hdc, hd, h1', hnT, hTe, hT, hdT, h3⟩ := id t1
  unfold cameBackBy
  rw [hf]
  refine wpAny_bind (wpAny_field he hd h1' ?_)
  dsimp only
  rw [if_neg (by simp)]
  refine mark_fly (outer := X.outer) (env := X.env) k1 l1 t1 fun h2 k2 u2 l2 t2 => ?_
  exact ⟨⟨hst, hf, ff⟩, a, cls, H', B, rfl, (x.step ff k1 u1).step ff k2 u2, ⟨y.1, l2, .inr (.inr ⟨_, hf, t2⟩)⟩, q⟩
theorem wx_leaves {P : Program} {w : World} {A : Around} {env : Env} {outer : List Env} {H : Hp} {s s' : Shared} {base : Heap} {L : Addr} {e : Value} {Ex : Value → Shared → Prop} (hst : A.frames = some (env :: outer)) (hf : env.frame = some L) (ff : s.heap.FunFrames base outer)
    (h : ∃ a cls H' B, e = Value.ref a ∧ XL P w outer H s H' B s' ∧ FlyS B env outer a cls s'.heap ∧ E cls none H') : wpAny (model P w) A (leaving env e) (fun _ s'' => CXE P w outer H s E e s'') Ex s' := by
  obtain ⟨a, cls, H', B, rfl, x, y, q⟩ := h
  unfold leaving
  refine wpAny_bind (note_fly hst hf x.stays y fun h1 k1 u1 l1 t1 => ?_)
  refine mark_fly k1 l1 t1 fun h2 k2 u2 l2 t2 => ?_
  exact ⟨a, cls, H', B, rfl, (x.step ff k1 u1).step ff k2 u2, y.1, l2.2.2, t2, q⟩
theorem pass_on {E' : XK} (hs : X.stack = X.env :: X.outer) (hf : X.env.frame = some X.env.locals) (hex : X.ex = []) (hE : ∀ cls H', E' cls none H' → E cls none H') : Passes (CXE X.prog X.w) (X.exc E) E' := by
  rintro pins σ H s e s' I0 ⟨a, cls, H', B, rfl, x, f2, f3, f4, q⟩
  have I := I0.unwish
  have nex : ∀ b, b ∉ X.ex := fun b hb => by rw [hex] at hb; cases hb
  have nst : ∀ b o, X.s₀.heap.get? b = some o → b ∉ X.fs → b ∉ frs X.stack := fun b o e nb hb => by
    rcases List.mem_cons.mp (I.stkSub b hb) with z | z
    · subst z; exact absurd (Nat.lt_of_lt_of_le (Heap.lt_size e) I.ok.above) (Nat.lt_irrefl _)
    · exact nb z
  have inst : ∀ b, b ∈ X.fs → b ∈ frs X.stack := fun b hb => by
    rw [hs]; unfold frs; rw [List.filterMap_cons]
    split
    · exact hb
    · exact List.mem_cons_of_mem _ hb
  rw [show (X.exc E).stack = X.env :: X.outer from hs] at f3
  exact ⟨⟨by rw [← hs]; exact I.ok.frames, hf, I.ok.funs⟩, a, cls, H', B, rfl,
    { os := x.os.trans I.os
      bare := x.bare
      keepB := fun b o e n hb => x.keepB b o (I.base.keep b o e n hb (nex b)) (I.base.free b o e n (nex b)) (nst b o e hb)
      allB := fun b o e hb => by
        obtain ⟨o1, e1⟩ := I.base.there b o e (nex b)
        exact x.allB b o1 e1 (nst b o e hb)
      trkB := x.trkB
      frm := fun b o e hb => by
        obtain ⟨sl, e1⟩ := I.base.slot b o e (I.ok.frf b hb) hb (nex b)
        obtain ⟨sl2, e2⟩ := x.frm b _ e1 (inst b hb)
        exact ⟨sl2, e2⟩
      free := fun b o e n => by
        obtain ⟨o1, e1⟩ := I.base.there b o e (nex b)
        exact x.free b o1 e1 (I.base.free b o e n (nex b))
      tups := fun b xs e => x.tups b xs (I.base.tups b xs e)
      frzs := fun b o u e => x.frzs b o u (I.base.frzs b o u e)
      tbls := fun b ps e => by
        obtain ⟨m1, e1⟩ := I.base.tbls b ps e
        obtain ⟨m2, e2⟩ := x.tbls b _ e1
        exact ⟨m1 ++ m2, by rw [e2, Array.append_assoc]⟩
      hok := x.hok
      stays := x.stays }, ⟨f2, f3, .inr (.inl f4)⟩, hE _ _ q⟩
theorem raise_wx {pins : List (Addr × Obj)} {σ : St} {H : Hp} {s : Shared} {h' : Heap} {e : Addr} {cls : Value} {args : List Value} (hs : X.stack = X.env :: X.outer) (hf : X.env.frame = some X.env.locals) (hex : X.ex = []) (I : Inv X pins σ H s) (hx : Heap.MadeExcOf s.heap h' e cls args) (q : E cls none H) : WX X E (.ref e) { s with heap := h' } := by
  have nex : ∀ b, b ∉ X.ex := fun b hb => by rw [hex] at hb; cases hb
  have nst : ∀ b o, X.s₀.heap.get? b = some o → b ∉ X.fs → b ∉ frs X.stack := fun b o e nb hb => by
    rcases List.mem_cons.mp (I.stkSub b hb) with z | z
    · subst z; exact absurd (Nat.lt_of_lt_of_le (Heap.lt_size e) I.ok.above) (Nat.lt_irrefl _)
    · exact nb z
  obtain ⟨t, he, hnt, ht⟩ := hx.there
  have hin : ∀ env ∈ X.stack, ∀ b, env.frame = some b → b ∈ frs X.stack := fun env hm b hb => List.mem_filterMap.mpr ⟨env, hm, hb⟩
  have fr := (PySem.W.funFrames_hide I.stack hin).of_keeps (h' := h') fun b o e _ => ⟨o, hx.keeps b o e, rfl⟩
  rw [hs] at fr
  refine ⟨⟨by rw [← hs]; exact I.ok.frames, hf, I.ok.funs⟩, e, cls, H, PySem.W.hideAll s.heap (frs X.stack), rfl,
    { os := I.os
      bare := I.bare
      keepB := fun b o e n hb => PySem.W.hideAll_get _ (I.base.keep b o e n hb (nex b)) (nst b o e hb)
      allB := fun b o e hb => by
        obtain ⟨o1, e1⟩ := I.base.there b o e (nex b)
        exact ⟨o1, PySem.W.hideAll_get _ e1 (nst b o e hb)⟩
      trkB := fun b u hu => by
        obtain ⟨o1, e1⟩ := (I.hok b u hu).has
        exact ⟨o1, PySem.W.hideAll_get _ e1 fun hb => by rw [I.stkFree b hb] at hu; cases hu⟩
      frm := fun b o e hb => by
        obtain ⟨sl, e1⟩ := I.base.slot b o e (I.ok.frf b hb) hb (nex b)
        exact ⟨sl, hx.keeps _ _ e1⟩
      free := fun b o e n => I.base.free b o e n (nex b)
      tups := I.base.tups
      frzs := I.base.frzs
      tbls := I.base.tbls
      hok := I.hok.kept hx.keeps
      stays := fun b o e => hx.keeps _ _ (PySem.W.of_hideAll _ e) }, ⟨?_, by rw [← hs]; rw [hs]; exact fr, .inl ⟨_, _, he, rfl, rfl, rfl, rfl⟩⟩, q⟩
  cases z : (PySem.W.hideAll s.heap (frs X.stack)).get? e with
  | none => rfl
  | some o => have := PySem.W.of_hideAll _ z; rw [hx.new] at this; cases this
end
end L2
set_option Elab.async false
set_option linter.all false
set_option maxRecDepth 100000
set_option maxHeartbeats 400000
namespace L2
open PySem PySem.Spec PyProof.Rows
abbrev veB : List Value := [.type "ValueError", .type "Exception", .type "BaseException", .type "object"]
def xclsB (K : PySem.W.Frag) (C : Addr) : Bool :=
  PySem.W.excIn K C veB "ValueError.__new__" && (PySem.W.findIn K (.ref C) "__getattribute__" == some (some (.builtin "BaseException.__getattribute__"))) && (PySem.W.findIn K (.ref C) "__getattr__" == some none) &&
  (PySem.W.findIn K (.ref C) "__class__" == some (some (.builtin "object.__class__"))) && (PySem.W.mroIn K C (.type "object") == some true) && (PySem.W.mroIn K C (.type "BaseException") == some true) && (PySem.W.clsIn K C).isSome &&
  (PySem.W.specialIn K (.builtin "object.__class__") "__get__" == some (some (.builtin "getset_descriptor.__get__"))) && (PySem.W.takesIn K (.builtin "object.__class__") == some true)
structure XCls (K : PySem.W.Frag) (C : Addr) : Prop where
  exc : PySem.W.excIn K C veB "ValueError.__new__" = true
  ga : PySem.W.findIn K (.ref C) "__getattribute__" = some (some (.builtin "BaseException.__getattribute__"))
  gn : PySem.W.findIn K (.ref C) "__getattr__" = some none
  cl : PySem.W.findIn K (.ref C) "__class__" = some (some (.builtin "object.__class__"))
  ob : PySem.W.mroIn K C (.type "object") = some true
  bx : PySem.W.mroIn K C (.type "BaseException") = some true
  ic : (PySem.W.clsIn K C).isSome = true
  sp : PySem.W.specialIn K (.builtin "object.__class__") "__get__" = some (some (.builtin "getset_descriptor.__get__"))
  tk : PySem.W.takesIn K (.builtin "object.__class__") = some true
theorem XCls.of {K : PySem.W.Frag} {C : Addr} (h : xclsB K C = true) : XCls K C := by
  simp only [xclsB, Bool.and_eq_true, beq_iff_eq] at h
  obtain ⟨⟨⟨⟨⟨⟨⟨⟨h1, h2⟩, h3⟩, h4⟩, h5⟩, h6⟩, h7⟩, h8⟩, h9⟩ := h
  exact ⟨h1, h2, h3, h4, h5, h6, h7, h8, h9⟩
theorem XCls.find {K : PySem.W.Frag} {C : Addr} (c : XCls K C) : PySem.W.findObj K C none "__class__" = some (.bind (.builtin "getset_descriptor.__get__") (.builtin "object.__class__")) := by
  obtain ⟨cd, e⟩ := Option.isSome_iff_exists.mp c.ic
  unfold PySem.W.findObj
  rw [e, Option.bind_some, c.cl, Option.bind_some]
  simp [c.sp, c.tk]
section
open PySem.W
variable {prog : Program} {w : World} {A : Around} {E : Value → Shared → Prop} {s : Shared} {K : PySem.W.Frag} {x C : Addr} {ox : Obj} {Q : Option Value → Shared → Prop}
theorem exc_class (X : K.In s.heap) (I : PySem.W.InstAt s.heap x ox C none) (c : XCls K C) (h : Q (some (.ref C)) { s with toks := s.toks + 1 }) : wpAny (model prog w) A (getAttr? (.ref x) "__class__") Q E s := by
  obtain ⟨hh, g, d, t, os⟩ := s
  have M0 := I.type (M := model prog w)
  have M1 := looks_findIn (M := model prog w) X c.ga
  have M2 := looks_findIn (M := model prog w) X c.gn
  have M3 := looks_find (M := model prog w) X I c.find
  have M4 := looks_mroIn (M := model prog w) X c.bx
  have ne : (Value.builtin "BaseException.__getattribute__" == Value.builtin "object.__getattribute__") = false := by decide +kernel
  unfold getAttr? getAttrBy? getAttrBy
  refine wpAny_bind (wpAny_mkText (wpAny_bind (wpAny_attempt (wpAny_holding (wpAny_bind (M0.at (wpAny_bind (M1.at ?_))))))))
  dsimp only
  rw [if_neg (by rw [ne, Bool.and_false]; exact Bool.false_ne_true)]
  unfold getAttrByItsOwn hookBefore
  refine wpAny_bind (M2.at (wpAny_bind (wpAny_attempt (wpAny_holding ?_))))
  unfold callGetattribute
  rw [if_neg (by simp [onTheHeap])]
  unfold boundAndCalled
  refine wpAny_bind (wpAny_of_eq (PySem.F.excAttr_ValueError.ga.bind (.ref x)) ?_)
  refine wpAny_call (codeAny_call_builtin PySem.F.excAttr_ValueError.ga.plain PySem.F.entry_bexc_ga ?_)
  have kd : builtinKind "BaseException.__getattribute__" = some .slot := by decide +kernel
  have sp : splitId "BaseException.__getattribute__" = some ("BaseException", "__getattribute__") := by decide +kernel
  have ao := PySem.F.args_bexc_ga (.ref x) (.str "__class__" t)
  have LI : Looks (model prog w) hh (isInstance (.ref x) (.type "BaseException")) true := M0.andThen M4
  simp only [checkBuiltinCall, kd, sp]
  refine wpAny_bind (LI.at ?_)
  rw [if_neg (by decide)]
  refine wpAny_of_eq (a := ()) ao ?_
  unfold Builtin.«object.__getattribute__»
  repeat (first | refine wpAny_bind (M0.at ?_) | refine wpAny_bind (M3.at ?_) | wp_step)
  refine class_get (ox := ox) (od := none) X I c.ob ?_
  exact wpAny_pure (wpAny_pure (wpAny_pure h))
theorem kitx_exc (c : XCls K C) : KitX K (.ref x) (.ref C) (fun h => ∃ ox, PySem.W.InstAt h x ox C none) where
  ty := fun _ _ _ ⟨_, I⟩ => I.type
  it := fun _ _ X _ => by
    have q := c.ic
    unfold clsIn at q
    split at q
    · rename_i lk
      intro A' Q' E' s' kp qq
      unfold isType loadHead
      exact wpAny_bind (wpAny_loadPart (kp _ _ (X _ _ lk)) (wpAny_pure qq))
    · cases q
  ne := fun h tp dd its n sl X ht => by
    have q := c.ic
    unfold clsIn at q
    split at q
    · rename_i lk
      refine Bool.eq_false_iff.mpr fun z => ?_
      obtain rfl : C = tp := Value.ref.inj (beq_iff_eq.mp z)
      cases (X _ _ lk).symm.trans ht
    · cases q
  ca := fun X ⟨_, I⟩ k => exc_class X I c k
end
def excO (x C : Addr) : HO := .ext fun h => ∃ ox, PySem.W.InstAt h x ox C none
def vv : V → Value
  | .ref a => .ref a
  | .ty n => .type n
  | _ => .none
def isCls : V → Bool
  | .ref _ => true
  | .ty _ => true
  | _ => false
theorem vv_of {x : V} {u : Value} (h : isCls x = true) (r : RelV x u) : u = vv x := by
  cases x <;> first | exact r | cases h
theorem vv_all : ∀ {xs : List V} {us : List Value}, xs.all isCls = true → Vals xs us → us = xs.map vv
  | [], _, _, .nil => rfl
  | x :: xs, _, h, .cons r t => by
    rw [List.all_cons, Bool.and_eq_true] at h
    rw [List.map_cons, vv_of h.1 r, vv_all h.2 t]
section
variable {X : Cx} {K : PySem.W.Frag}
theorem Inv.excAt {pins : List (Addr × Obj)} {σ : St} {H : Hp} {s : Shared} {a C : Addr} (I : Inv X pins σ H s) (h : H a = some (excO a C)) : ∃ ox, PySem.W.InstAt s.heap a ox C none := (I.hok a _ h).1
theorem call_isX (hK : X.K = K) : CallR X (.builtin "isinstance") (fun xs H Q => ∃ a C c b, xs = [.ref a, c] ∧ H a = some (excO a C) ∧ XCls K C ∧ isCls c = true ∧ PySem.W.kitOne K (.ref C) (vv c) = some b ∧ Q (.bl b) H) := by
  subst hK
  intro pins s σ H xs us Q I r h
  obtain ⟨a, C, c, b, rfl, ha, xc, hc, hk, q⟩ := h
  obtain ⟨u, w', rfl, r1, r2⟩ := vals2 r
  cases r1
  cases vv_of hc r2
  exact PySem.W.kia_one (kitx_exc xc) I.kIn (I.excAt ha) hk (by intro z; cases z) fun tk => ⟨.bl _, H, I.tok tk, rfl, q⟩
theorem call_isXT (hK : X.K = K) : CallR X (.builtin "isinstance") (fun xs H Q => ∃ a C tp cs b, xs = [.ref a, .ref tp] ∧ H a = some (excO a C) ∧ XCls K C ∧ SqT K H tp cs ∧ cs.all isCls = true ∧ PySem.W.kitAny K (.ref C) (cs.map vv) = some b ∧ Q (.bl b) H) := by
  subst hK
  intro pins s σ H xs us Q I r h
  obtain ⟨a, C, tp, cs, b, rfl, ha, xc, ht, hc, hk, q⟩ := h
  obtain ⟨u, w', rfl, r1, r2⟩ := vals2 r
  cases r1; cases r2
  obtain ⟨its, rv, ⟨o, ho, hoc, n, hod⟩, _⟩ := I.tuple ht
  cases vv_all hc rv
  obtain ⟨ocl, odc, odt, osl⟩ := o
  cases hoc; cases hod
  exact PySem.W.kia_tup (kitx_exc xc) I.kIn (I.excAt ha) ho hk (by intro z; cases z) fun tk => ⟨.bl _, H, I.tok tk, rfl, q⟩
end
theorem exc_of {K : PySem.W.Frag} {h : Heap} {C : Addr} {bmB : List Value} {ni : String} (X : K.In h) (q : PySem.W.excIn K C bmB ni = true) : ∃ bm N nm qn bs hd sn sub ab col dd k0 k1 k2 k3 k5 mN,
    h.get? C = some (excClassObj nm qn C N bs bm hd sn sub ab col dd k0 k1 k2 k3 k5 ni) ∧ h.Ns N mN ∧ mN "__init__" = none ∧ OwnTail h bmB bm := by
  simp only [PySem.W.excIn] at q
  split at q
  case h_2 => cases q
  case h_1 d0 c0 z0 lk =>
    split at q
    case h_2 => cases q
    case h_1 C0 bm p0 p1 p2 p3 n0 p5 em es =>
      simp only [Bool.and_eq_true, beq_iff_eq, Bool.not_eq_true'] at q
      obtain ⟨⟨⟨⟨⟨e1, e2⟩, e3⟩, e4⟩, e5⟩, e6⟩ := q
      subst e1 e2
      have ez : z0 = #[p0, p1, p2, p3, some (.builtin n0), p5] := by rw [← es]
      have kC := X _ _ lk
      rw [ez] at kC
      rcases c0 with ⟨nm, bs, mro, ns, qn, hd, sn, sub, ab, col, del⟩
      have em' : mro = .ref C0 :: bm := em
      have e3' : del = false := e3
      subst em' e3'
      exact ⟨bm, ns, nm, qn, bs, hd, sn, sub, ab, col, d0, p0, p1, p2, p3, p5, _, kC, .of_isNs (PySem.W.isNs_of_in X e5), PySem.W.nsMap_none_of_in X e5 e6, PySem.W.tail_of_in X e4⟩
section
variable {X : Cx} {E : XK}
theorem PS.nox {st : Stmt} {t : TS} (h : PS X.nox st t) : PS X st t := fun pins s σ H D I hw =>
  wpAny_mono (h pins s σ H D (I.wish _) hw) (fun _ _ q => q.unwish) fun _ _ z => False.elim z
def tRaise (E : XK) (C : Addr) : TS := fun _ _ H => E (.ref C) none H
theorem ps_raise {x : Str} {C : Addr} {np cpos pos p1 : Pos} {t : Str} {j} (hs : X.stack = X.env :: X.outer) (hf : X.env.frame = some X.env.locals) (hex : X.ex = []) (hc : X.calm = true) (hg : Gl X x) (hm : X.mg x = some (.ref C)) (xc : XCls X.K C) (hdb : (x == ("__debug__" : Str)) = false := by decide)
    (he : starEach [Expr.Constant (.str t) j p1] X.env = [(false, eval (.Constant (.str t) j p1) X.env)] := by rfl) :
    PS (X.exc E) (.Raise (some (.Call (.Name x np) [.Constant (.str t) j p1] [] cpos)) none pos) (tRaise E C) := by
  intro pins s σ H D I0 h
  have I := I0.unwish
  obtain ⟨bm, N, nm, qn, bs, hd, sn, sub, ab, col, dd, k0, k1, k2, k3, k5, mN, kC, kN, kn, kt⟩ := exc_of I.kIn xc.exc
  refine wpAny_Raise_call_subT (env := X.env) (C := C) (nm := nm) (q := qn) (N := N) (bs := bs) (bm := bm) (hdct := hd) (sn := sn) (sub := sub) (ab := ab) (col := col) (dd := dd) (k0 := k0) (k1 := k1) (k2 := k2) (k3 := k3) (k5 := k5)
    PySem.F.excBase_ValueError (mN := mN) (kt.hasType PySem.F.excBase_ValueError.hasBase) (I.ok.hd hc) (by rw [he]; rfl) kn (ld_glob I0 hg hm ⟨rfl, ?_⟩ hdb)
  rw [he]
  refine Calls.evalArgs_plain (Calls.spliced_cons (Calls.Constant_str (pos := p1) (k := j) (Calls.spliced_nil ?_)))
  refine ⟨rfl, by show 1 ≤ sizeLine; decide, kC, kN, kt, fun h' e me => ?_⟩
  exact raise_wx (s := { s with toks := s.toks + 1 }) hs hf hex (I.tok _) me h
end
section
variable {P : Program} {w : World} {K : PySem.W.Frag} {mg : Str → Option Value} {base : Heap}
theorem Fun.okE {x qual : Str} {st : Stmt} {f : Addr} {fd : FuncData} {N ps : List Str} {k : Nat} {sp : Sp} (F : Fun K x qual st f fd) (S : FnScope N ps (defScope st)) (len : ∀ vs H Q E, sp vs H Q E → vs.length = ps.length)
    (hbody : ∀ (cdv : Value) (A : Around) (outer : List Env) (s : Shared) (H : Hp) (vs : List V) (Q : VK) (E : XK), Room k (A.deeper (envOfC qual (defScope st) s.heap.objs.size f cdv)) → sp vs H Q E →
      ∃ t, PSs ((cxOf (CXE P w) P w K mg base N qual (defScope st) f cdv A outer s H E).exc E) (defBody st) t ∧ t { nx := fun _ H' => Q .non H', rt := Q } (start N vs) H) : FnOk P w K mg base (CXE P w) (k + 1) f fd ps sp := by
  obtain ⟨oc, od, kV, doc, pm, an, cdv, ct, osl, rfl, lk, hcd⟩ := F.ex
  refine fn_of lk hcd S len fun A outer s H vs Q E hr hsp => ?_
  obtain ⟨t, h, q⟩ := hbody cdv A outer s H vs Q E hr hsp
  refine ⟨t, fun pins s1 σ H1 D I hw => ?_, q⟩
  exact wpAny_mono (h pins s1 σ H1 D (I.wish _) hw) (fun _ _ z => z.unwish) fun e s2 z => wx_leaves (base := base) I.ok.frames rfl I.ok.funs z.2
end
end L2
set_option Elab.async false
set_option linter.all false
set_option maxRecDepth 100000
set_option maxHeartbeats 400000
namespace L2
open PySem PySem.Spec PyProof.Rows
section
variable {X : Cx} {pins : List (Addr × Obj)} {σ : St} {H : Hp} {s : Shared}
theorem gone_ok {M : Model} {A : Around} {Ex : Value → Shared → Prop} {i : Nat} {x : Str} {pos : Pos} {Q : Unit → Shared → Prop} (I : Inv X pins σ H s) (hN : X.N.Nodup) (hi : X.N[i]? = some x) (hk : X.env.kindOf x = some .local)
    (h : ∀ s', Inv X pins (σ.set i none) H s' → Q () s') : wpAny M A (do bindName X.env x .none; unbindBehindTheSuite X.env x pos) Q Ex s := by
  obtain ⟨m, hn, hl⟩ := id I.loc
  have hcls : (X.env.scope.kind == .class || (X.env.scope.kind == .module && X.env.locals != X.env.globals)) = false := by rw [I.ok.kind]; rfl
  have cne := I.cne
  refine wpAny_nameGoes_keeps hk hn hcls fun h' v hn' hs => ?_
  obtain ⟨oL, _, _, hoL, _⟩ := id hn
  have far : ∀ b o, X.s₀.heap.get? b = some o → b ≠ X.env.locals := fun b o e => Nat.ne_of_lt (Nat.lt_of_lt_of_le (Heap.lt_size e) I.ok.above)
  refine h _ ⟨I.ok, I.os, I.bare, ⟨fun b o e n hb hx => ?_, fun b o e n hb hx => ?_, I.base.free, fun b o e hx => ?_, I.base.tups, I.base.frzs, I.base.tbls⟩, ⟨_, hn', fun j y v' e1 e2 e3 => ?_⟩, fun y c e => ?_, I.free, I.freeC, fun p hp => ?_, fun b ob e => ?_, by simpa using I.len⟩
  · exact (hs.2 b (far b o e)).trans (I.base.keep b o e n hb hx)
  · obtain ⟨sl, e1⟩ := I.base.slot b o e n hb hx
    exact ⟨sl, (hs.2 b (far b o e)).trans e1⟩
  · obtain ⟨o', e1⟩ := I.base.there b o e hx
    exact ⟨o', (hs.2 b (far b o e)).trans e1⟩
  · by_cases hj : j = i
    · subst hj
      have hj' : j < σ.length := by
        by_cases z : j < σ.length
        · exact z
        · rw [List.getElem?_eq_none (by rw [List.length_set]; omega)] at e2; cases e2
      rw [List.getElem?_set_self hj'] at e2; cases e2
    · rw [List.getElem?_set_ne (Ne.symm hj)] at e2
      obtain ⟨u', r', q⟩ := hl j y v' e1 e2 e3
      refine ⟨u', r', ?_⟩
      rcases q with ⟨k, e⟩ | ⟨k, c, e, z⟩
      · refine .inl ⟨k, ?_⟩
        have : y ≠ x := fun e => hj (nodup_ix hN e1 (e ▸ hi))
        simp [this, e]
      · exact .inr ⟨k, c, e, z.sameBut hs (cne y c e)⟩
  · obtain ⟨w', z⟩ := I.cell y c e
    exact ⟨w', z.sameBut hs (cne y c e)⟩
  · obtain ⟨e, n, ne, nf, d⟩ := I.pin p hp
    exact ⟨(hs.2 p.1 ne).trans e, n, ne, nf, d⟩
  · have hfree := I.free
    refine (I.hok b ob e).stay (fun c w' hc q => (hs.2 c ?_).trans q) (fun _ q => q) fun _ _ q => q
    rintro rfl
    rcases hc with rfl | hc
    · rw [hfree] at e; cases e
    · rw [hfree] at hc; cases hc
end
def Cx.hand (X : Cx) (e : Addr) : Cx := { X with A := X.A.mark (some (.ref e)), calm := false, xe := fun _ _ => False }
section
variable {X : Cx} {pins : List (Addr × Obj)} {σ : St} {H : Hp} {s : Shared} {e : Addr}
theorem Inv.hand (I : Inv X pins σ H s) (e : Addr) : Inv (X.hand e) pins σ H s :=
  ⟨⟨I.ok.mod, I.ok.kind, I.ok.glob, I.ok.blt, I.ok.above, I.ok.inj, I.ok.has, I.ok.cab, (fun z => by cases z), I.ok.frames, I.ok.stk, I.ok.exf, I.ok.bs, I.ok.bsz, I.ok.noex, I.ok.exfs, I.ok.funs, I.ok.frf⟩, I.os, I.bare, I.base, I.loc, I.cell, I.free, I.freeC, I.pin, I.hok, I.len⟩
theorem Inv.unhand (ok : X.Ok) (I : Inv (X.hand e) pins σ H s) : Inv X pins σ H s := ⟨ok, I.os, I.bare, I.base, I.loc, I.cell, I.free, I.freeC, I.pin, I.hok, I.len⟩
end
def PSx (X : Cx) (st : List Stmt) (t : XK → TS) : Prop := ∀ (pins : List (Addr × Obj)) (s : Shared) (σ : St) (H : Hp) (D : Ends) (Eh : XK) (Z : Value → Shared → Prop), Inv X pins σ H s → t Eh D σ H →
  (∀ H1 s1 e s', Inv X pins σ H1 s1 → CXE X.prog X.w X.stack H1 s1 Eh e s' → Z e s') → wpAny (model X.prog X.w) X.A (execs st X.env) (SP X pins D) Z s
section
variable {X : Cx} {k : Nat} {f : Addr} {fd : FuncData} {ps : List Str} {sp : Sp} {dvs : List V} {ds : List Value} {x : Str} {p pos cpos : Pos} {e : Expr} {es : List Expr} {t : TA}
theorem run_fnX {pins : List (Addr × Obj)} {σ : St} {H : Hp} {s : Shared} {Q : VK} {us : List Value} {vs : List V} {Eh : XK} {Z : Value → Shared → Prop} (F : FnOk X.prog X.w X.K X.mg X.base (CXE X.prog X.w) k f fd ps sp) (hr : Room k X.A) (hb : Binds X.K fd ps ds) (hd : Vals dvs ds)
    (hx : ∀ e s', CXE X.prog X.w X.stack H s Eh e s' → Z e s') (I : Inv X pins σ H s) (r : Vals vs us) (h : sp (vs ++ dvs) H Q Eh) : wpAny (model X.prog X.w) X.A (call (.ref f) us) (EP X pins σ Q) Z s := by
  have r2 : Vals (vs ++ dvs) (us ++ ds) := r.append hd
  have hl : (us ++ ds).length = ps.length := by rw [← r2.length]; exact F.len _ _ _ _ h
  refine wpAny_call (codeAny_mono (F.run X.A X.stack s H ⟨us, []⟩ (us ++ ds) (vs ++ dvs) Q Eh hr I.env0 (hb s us I.kIn hl) r2 h) fun r s' hq => ?_)
  cases r with
  | error e => exact hx e s' hq
  | ok fl =>
    cases fl with
    | ret u => exact I.after hq
    | next => exact False.elim hq
    | brk => exact False.elim hq
    | cont => exact False.elim hq
theorem callX {pins : List (Addr × Obj)} {σ : St} {H : Hp} {s : Shared} {Q : VK} {Eh : XK} {Z : Value → Shared → Prop} (F : FnOk X.prog X.w X.K X.mg X.base (CXE X.prog X.w) k f fd ps sp) (hr : Room k X.A) (hg : Gl X x) (hm : X.mg x = some (.ref f)) (hk : PySem.W.keepIn X.K (.ref f) = true) (hb : Binds X.K fd ps ds) (hd : Vals dvs ds)
    (ha : PA X.nox (e :: es) t) (I : Inv X pins σ H s) (h : tCall sp dvs Eh t σ H Q) (hx : ∀ H1 s1 e s', Inv X pins σ H1 s1 → CXE X.prog X.w X.stack H1 s1 Eh e s' → Z e s') (hdb : (x == ("__debug__" : Str)) = false)
    (he : starEach (e :: es) X.env = (false, eval e X.env) :: starEach es X.env) (hpl : (backTo cpos (starEach es X.env)).any (·.1) = false) :
    wpAny (model X.prog X.w) X.A (eval (.Call (.Name x p) (e :: es) [] cpos) X.env) (EP X pins σ Q) Z s := by
  refine wpAny_Call_Name_kw (ld_glob I hg hm ?_ hdb)
  refine PySem.W.callWith_K (h₀ := X.base) I.ok.mod.kin hk (wpAny_mono (ha cpos pins s σ H _ (I.wish _) h) (fun us s1 ⟨vs, H1, I1, r, q⟩ => ⟨I1.unwish.kIn, ?_⟩) fun _ _ z => z.elim) he hpl
  exact run_fnX F hr hb hd (fun e s' z => hx H1 s1 e s' I1.unwish z) I1.unwish r q
theorem psx_call (F : FnOk X.prog X.w X.K X.mg X.base (CXE X.prog X.w) k f fd ps sp) (hr : Room k X.A) (hg : Gl X x) (hm : X.mg x = some (.ref f)) (hk : PySem.W.keepIn X.K (.ref f) = true) (hb : Binds X.K fd ps ds) (hd : Vals dvs ds)
    (ha : PA X.nox (e :: es) t) (hdb : (x == ("__debug__" : Str)) = false := by decide) (he : starEach (e :: es) X.env = (false, eval e X.env) :: starEach es X.env := by rfl) (hpl : (backTo cpos (starEach es X.env)).any (·.1) = false := by rfl)
    (hs : swapsWith (.Call (.Name x p) (e :: es) [] cpos) none pos.line X.env = pure false := by rfl) :
    PSx X [.Expr (.Call (.Name x p) (e :: es) [] cpos) pos] (fun Eh => tDrop (tCall sp dvs Eh t)) := by
  intro pins s σ H D Eh Z I h hx
  refine wpAny_execs_cons (wpAny_Expr_any (thn (callX F hr hg hm hk hb hd ha I h hx hdb he hpl) fun v s1 ⟨y, H1, I1, r1, q1⟩ => ?_) I.quiet hs)
  exact wpAny_execs_nil ⟨σ, H1, I1, q1⟩
end
def tTry (K : PySem.W.Frag) (cy : Value) (i : Nat) (tb : XK → TS) (th : TS) : TS := fun D σ H =>
  tb (fun cls _ H' => PySem.W.exmOne K cls cy = some true ∧ ∃ C, cls = Value.ref C ∧ ∀ x, H' x = none →
    th { nx := fun σ' H2 => D.nx (σ'.set i none) H2, rt := D.rt, bk := fun σ' H2 => D.bk (σ'.set i none) H2, ct := fun σ' H2 => D.ct (σ'.set i none) H2 } (σ.set i (some (.ref x))) (upd H' x (excO x C))) D σ H
section
variable {X : Cx} {K : PySem.W.Frag}
theorem ps_tryAs {body : List Stmt} {tb : XK → TS} {b₀ : Stmt} {suite : List Stmt} {y n : Str} {np hpos pos : Pos} {th : TS} {i : Nat} {cy : Value} (hK : X.K = K) (hb : PSx X body tb) (hs : X.stack = X.env :: X.outer) (hf : X.env.frame = some X.env.locals)
    (hg : Gl X y) (hm : X.mg y = some cy) (hN : X.N.Nodup) (hi : X.N[i]? = some n) (hl : X.env.kindOf n = some .local) (hh : ∀ e, PSs (X.hand e) (b₀ :: suite) th) (hdb : (y == ("__debug__" : Str)) = false := by decide) :
    PS X (.Try body [.ExceptHandler (some (.Name y np)) (some n) (b₀ :: suite) hpos] [] [] pos) (tTry K cy i tb th) := by
  subst hK
  intro pins s σ H D I h
  refine wpAny_Try_except (thn (hb pins s σ H D _ _ I h ?_) fun f s1 q => ?_)
  · intro H1 s1 e s' I1 ⟨a, cls, H', B, ee, x, nb, ff, ht, em, C, ec, q⟩
    subst ee ec
    have fr : X.A.frames = some (X.env :: X.outer) := by rw [← hs]; exact I1.ok.frames
    have ff1 := I1.stack
    rw [hs] at ff
    refine note_fly (cls := .ref C) fr hf x.stays ⟨nb, ff, .inr (.inl ht)⟩ fun h2 k2 u2 l2 t2 => ?_
    refine mark_fly (fo := none) k2 l2 t2 fun h3 k3 u3 l3 t3 => ?_
    have x3 := (x.step ff1 k2 u2).step ff1 k3 u3
    have J3 : Inv X pins σ H' { s' with heap := h3 } := I1.call' (ch := []) x3.os x3.un x3.hok x3.bare (fun b z => absurd z (by simp))
    obtain ⟨oe, vs, T, oT, ts, he, hc, _⟩ := id t3
    refine wpAny_handleBy_cons (codeAny_handlers_test (ld_glob (X := X.hand a) (J3.hand a) hg hm ?_ hdb)) (by intro z; cases z)
    have LT : PySem.W.Looks (model X.prog X.w) h3 (typeOf (.ref a)) (.ref C) := hc ▸ (PySem.W.Looks.ld he).andThen .now
    refine (PySem.W.exm_one J3.kIn LT em).here ?_
    refine codeAny_handlers_suite_as (mark_fly (fo := none) k3 l3 t3 fun h4 k4 u4 l4 t4 => ?_)
    have x4 := x3.step ff1 k4 u4
    obtain ⟨oe4, vs4, T4, oT4, ts4, he4, hc4, hdc4, hd4, _⟩ := id t4
    have na : H' a = none := by
      cases z : H' a with
      | none => rfl
      | some u => obtain ⟨o, eo⟩ := x4.trkB a u z; rw [nb] at eo; cases eo
    have nfr : a ∉ frs X.stack := fun hm => by
      rw [hs] at hm
      obtain ⟨_, o, eo, nf⟩ := l4.mem hm
      rw [he4] at eo; cases eo; exact nf _ hd4
    have un4 : Un (frs X.stack) [] H1 (upd H' a (excO a C)) s1.heap h4 :=
      { keep := x4.un.keep
        slot := x4.un.slot
        free := fun b o e n hx => by
          have nea : b ≠ a := fun z => by
            subst z
            obtain ⟨o', eo⟩ := x4.allB b o e nfr
            rw [nb] at eo; cases eo
          rw [upd_ne nea]; exact x4.un.free b o e n hx
        there := x4.un.there
        tups := fun b xs e => by have e2 := x4.tups b xs e; rw [upd_ne (ne_of_none e2 na)]; exact e2
        frzs := fun b o u e => by have e2 := x4.frzs b o u e; rw [upd_ne (ne_of_none e2 na)]; exact e2
        tbls := fun b ps e => by obtain ⟨m, e2⟩ := x4.tbls b ps e; exact ⟨m, by rw [upd_ne (ne_of_none e2 na)]; exact e2⟩ }
    have hok4 : HOk X.prog X.w (upd H' a (excO a C)) h4 := fun b u e => by
      by_cases z : b = a
      · subst z
        rw [upd_same] at e; cases e
        have mk : ∀ h : Heap, h.get? b = some oe4 → ∃ ox, PySem.W.InstAt h b ox C none := fun h eh => by
          obtain ⟨c0, d0, dt0, sl0⟩ := oe4
          cases hdc4; cases hd4
          exact ⟨_, eh, hc4, rfl, trivial⟩
        refine ⟨mk h4 he4, ⟨_, he4⟩, fun g1 g2 ⟨ox, i1⟩ kk => ⟨ox, kk _ i1.at_, i1.cls, i1.no, ?_⟩⟩
        have := i1.dict
        cases zz : ox.dict with
        | none => trivial
        | some d0 => rw [zz] at this; exact this.elim
      · rw [upd_ne z] at e
        exact (x4.hok b u e).stay (fun _ _ _ q => q) (fun c q => by rw [upd_ne (ne_of_none q na)]; exact q) fun c xs q => by rw [upd_ne (ne_of_none q na)]; exact q
    have J4 : Inv X pins σ (upd H' a (excO a C)) { s' with heap := h4 } := I1.call' (ch := []) x4.os un4 hok4 x4.bare (fun b z => absurd z (by simp))
    refine store_ok (X := X.hand a) (J4.hand a) hN hi (.inl hl) (v := .ref a) rfl (fun s5 I5 => ?_) (.inr hl)
    refine wpAny_mono (hh a pins s5 _ _ _ I5 (q a na)) (fun f s6 z => ?_) fun _ _ z => z.elim
    cases f with
    | next => obtain ⟨σ', H2, I6, q6⟩ := z; exact gone_ok (I6.unhand I.ok) hN hi hl fun s7 I7 => ⟨_, H2, I7, q6⟩
    | brk => obtain ⟨σ', H2, I6, q6⟩ := z; exact gone_ok (I6.unhand I.ok) hN hi hl fun s7 I7 => ⟨_, H2, I7, q6⟩
    | cont => obtain ⟨σ', H2, I6, q6⟩ := z; exact gone_ok (I6.unhand I.ok) hN hi hl fun s7 I7 => ⟨_, H2, I7, q6⟩
    | ret u => obtain ⟨v, σ', H2, I6, r6, q6⟩ := z; exact gone_ok (I6.unhand I.ok) hN hi hl fun s7 I7 => ⟨v, _, H2, I7, r6, q6⟩
  · cases f with
    | next => exact wpAny_execs_nil q
    | brk => exact q
    | cont => exact q
    | ret u => exact q
end
end L2
namespace L2
open PySem PySem.Spec PyProof.Rows
section
variable {X : Cx} {K : PySem.W.Frag} {e o : Expr} {es : List Expr} {to : TE} {t : TA} {T id : String} {name : Str} {apos cpos : Pos} {r : V → List V → Hp → VK → Prop}
theorem pe_bmK (hK : X.K = K) (pa : PlainAttrs T) (slot : Slot T name id) (hty : typeOf (.builtin id) = pure (.type "method_descriptor")) (hm : MtR X id r) (ho : PE X o to) (ha : PA X (e :: es) t)
    (hbase : attributeBase o name X.env (eval o X.env) = eval o X.env := by rfl)
    (hfew : ((backTo cpos (starEach (e :: es) X.env)).all (fun x => !x.1) && (backToKw cpos (keywordEach [] X.env)).all (fun x => x.1.isSome)
      && decide ((e :: es).length + ([] : List Keyword).length + (if ([] : List Keyword).isEmpty then 0 else 1) < 30)) = true := by rfl)
    (hline : (apos.endLine == cpos.line) = true := by rfl) (hs : starEach (e :: es) X.env = (false, eval e X.env) :: starEach es X.env := by rfl) (hplain : (backTo cpos (starEach es X.env)).any (·.1) = false := by rfl) :
    PE X (.Call (.Attribute o name apos) (e :: es) [] cpos) (tBM K T r to t) := by
  subst hK
  exact pe_bm pa slot hty hm ho ha hbase hfew hline hs hplain
end
end L2
set_option Elab.async false
set_option linter.all false
set_option maxRecDepth 100000
set_option maxHeartbeats 400000
namespace L2
open PySem PySem.Spec PyProof.Rows
def Eqv (K : PySem.W.Frag) (H : Hp) : Nat → V → V → Bool → Prop
  | 0, x, y, b => (x = y ∧ (∃ a, x = .ref a) ∧ b = true) ∨ (flatV x = true ∧ flatV y = true ∧ b = eqV x y)
  | n + 1, x, y, b => (x = y ∧ (∃ a, x = .ref a) ∧ b = true) ∨ (flatV x = true ∧ flatV y = true ∧ b = eqV x y) ∨ ∃ (a c : Addr) (xs ys : List V) (e : Nat → Bool), x = .ref a ∧ y = .ref c ∧ ((SqL K H a xs ∧ SqL K H c ys) ∨ (SqT K H a xs ∧ SqT K H c ys)) ∧ (a = c → b = true) ∧ b = (decide (xs.length = ys.length) && (List.range xs.length).all e) ∧ ∀ (i : Nat) (x y : V), xs[i]? = some x → ys[i]? = some y → Eqv K H n x y (e i)
section
variable {X : Cx} {pins : List (Addr × Obj)} {σ : St} {H : Hp} {s : Shared}
theorem eqv_eq (I : Inv X pins σ H s) : ∀ (n : Nat) {A : Around} {x y : V} {b : Bool} {u v : Value}, A.units + n < cLine → Eqv X.K H n x y b → RelV x u → RelV y v → SeqAt.EqAt A s u v b
  | n, A, x, y, b, u, v, hu, h, ru, rv => by
    have base1 : x = y ∧ (∃ a, x = .ref a) ∧ b = true → SeqAt.EqAt A s u v b := by
      rintro ⟨rfl, ⟨a, rfl⟩, rfl⟩
      cases ru; cases rv
      exact SeqAt.EqAt.same _
    have base2 : flatV x = true ∧ flatV y = true ∧ b = eqV x y → SeqAt.EqAt A s u v b := by
      rintro ⟨h1, h2, rfl⟩
      exact eqAt_V (A := A) (s := s) ru rv h1 h2
    cases n with
    | zero => exact h.elim base1 base2
    | succ n =>
      rcases h with h | h | ⟨a, c, xs, ys, e, rfl, rfl, h, hs, hb, hi⟩
      · exact base1 h
      · exact base2 h
      · cases ru; cases rv
        by_cases ne : a = c
        · rw [hs ne, ne]; exact SeqAt.EqAt.same _
        refine SeqAt.EqAt.of_refs ne ?_
        rcases h with ⟨h1, h2⟩ | ⟨h1, h2⟩
        · obtain ⟨its, r1, p1, _⟩ := I.list h1
          obtain ⟨its2, r2, p2, _⟩ := I.list h2
          have l1 := r1.length
          have l2 := r2.length
          by_cases hl : xs.length = ys.length
          · have := SeqAt.RcAt.lists (A := A) (e := e) p1.isList p2.isList (by simp; omega) (by omega) fun j h1 h2 => by
              obtain ⟨x, ex, rx⟩ := vals_at r1 h1
              obtain ⟨y, ey, ry⟩ := vals_at r2 h2
              exact eqv_eq I n (by show A.units + 1 + n < cLine; omega) (hi j x y ex ey) rx ry
            rw [hb, decide_eq_true hl, Bool.true_and, l1]
            simpa using this
          · rw [hb, decide_eq_false hl, Bool.false_and]
            exact SeqAt.RcAt.lists_lengths (A := A) p1.isList p2.isList (by simp; omega) (by omega)
        · obtain ⟨its, r1, p1, _⟩ := I.tuple h1
          obtain ⟨its2, r2, p2, _⟩ := I.tuple h2
          have l1 := r1.length
          have l2 := r2.length
          have := SeqAt.RcAt.tuples (A := A) (e := e) p1 p2 (by omega) fun j h1 h2 => by
            obtain ⟨x, ex, rx⟩ := vals_at r1 h1
            obtain ⟨y, ey, ry⟩ := vals_at r2 h2
            exact eqv_eq I n (by show A.units + 1 + n < cLine; omega) (hi j x y ex ey) rx ry
          by_cases hl : xs.length = ys.length
          · rw [hb, decide_eq_true hl, Bool.true_and, l1]
            have e1 : its2.length = its.length := by omega
            simpa [e1] using this
          · rw [hb, decide_eq_false hl, Bool.false_and]
            have e1 : ¬ its.length = its2.length := by omega
            have e2 : (its.toArray.size == its2.toArray.size) = false := by simp [e1]
            rw [e2, Bool.and_false] at this
            exact this
def rEqv (K : PySem.W.Frag) (neg : Bool) : R2 := fun x y H Q => ∃ (n : Nat) (a c : Addr) (xs ys : List V) (e : Nat → Bool) (b : Bool), n ≤ 20 ∧ x = .ref a ∧ y = .ref c ∧ ((SqL K H a xs ∧ SqL K H c ys) ∨ (SqT K H a xs ∧ SqT K H c ys)) ∧ b = (decide (xs.length = ys.length) && (List.range xs.length).all e) ∧ (∀ (i : Nat) (x y : V), xs[i]? = some x → ys[i]? = some y → Eqv K H n x y (e i)) ∧ Q (.bl (if neg then !b else b)) H
theorem op_eqE (hu : X.A.units + 64 < cLine) : OpR X (compareOp .Eq) (rEqv X.K false) := by
  intro pins s σ H x y v u Q I rx ry h
  obtain ⟨n, a, c, xs, ys, e, b, hn, rfl, rfl, h, hb, hi, q⟩ := h
  cases rx; cases ry
  rw [if_neg (by decide), hb] at q
  rcases h with ⟨h1, h2⟩ | ⟨h1, h2⟩
  · obtain ⟨its, r1, p1, _⟩ := I.list h1
    obtain ⟨its2, r2, p2, _⟩ := I.list h2
    have l1 := r1.length
    have l2 := r2.length
    by_cases hl : xs.length = ys.length
    · rw [decide_eq_true hl, Bool.true_and, l1] at q
      exact SeqAt.RcAt.lists (e := e) p1.isList p2.isList (by simp; omega) (by omega) (fun j h1 h2 => by
        obtain ⟨x, ex, rx⟩ := vals_at r1 h1
        obtain ⟨y, ey, ry⟩ := vals_at r2 h2
        exact eqv_eq I n (by show X.A.units + 1 + n < cLine; omega) (hi j x y ex ey) rx ry) _ _ _ _ ⟨.bl _, H, I, rfl, by simpa using q⟩
    · rw [decide_eq_false hl, Bool.false_and] at q
      exact SeqAt.RcAt.lists_lengths p1.isList p2.isList (by simp; omega) (by omega) _ _ _ _ ⟨.bl _, H, I, rfl, q⟩
  · obtain ⟨its, r1, p1, _⟩ := I.tuple h1
    obtain ⟨its2, r2, p2, _⟩ := I.tuple h2
    have l1 := r1.length
    have l2 := r2.length
    have key : ((List.range (min its.toArray.size its2.toArray.size)).all e && its.toArray.size == its2.toArray.size) = (decide (xs.length = ys.length) && (List.range xs.length).all e) := by
      by_cases hl : xs.length = ys.length
      · have e1 : its2.length = its.length := by omega
        rw [decide_eq_true hl, Bool.true_and, l1]; simp [e1]
      · have e1 : ¬ its.length = its2.length := by omega
        rw [decide_eq_false hl, Bool.false_and]; simp [e1]
    rw [← key] at q
    exact SeqAt.RcAt.tuples (e := e) p1 p2 (by omega) (fun j h1 h2 => by
      obtain ⟨x, ex, rx⟩ := vals_at r1 h1
      obtain ⟨y, ey, ry⟩ := vals_at r2 h2
      exact eqv_eq I n (by show X.A.units + 1 + n < cLine; omega) (hi j x y ex ey) rx ry) _ _ _ _ ⟨.bl _, H, I, rfl, q⟩
theorem op_neE (hu : X.A.units + 64 < cLine) : OpR X (compareOp .NotEq) (rEqv X.K true) := by
  intro pins s σ H x y v u Q I rx ry h
  obtain ⟨n, a, c, xs, ys, e, b, hn, rfl, rfl, h, hb, hi, q⟩ := h
  cases rx; cases ry
  rw [if_pos rfl, hb] at q
  rcases h with ⟨h1, h2⟩ | ⟨h1, h2⟩
  · obtain ⟨its, r1, p1, _⟩ := I.list h1
    obtain ⟨its2, r2, p2, _⟩ := I.list h2
    have l1 := r1.length
    have l2 := r2.length
    by_cases hl : xs.length = ys.length
    · rw [decide_eq_true hl, Bool.true_and, l1] at q
      exact SeqAt.RcNeAt.lists (e := e) p1.isList p2.isList (by simp; omega) (by omega) (fun j h1 h2 => by
        obtain ⟨x, ex, rx⟩ := vals_at r1 h1
        obtain ⟨y, ey, ry⟩ := vals_at r2 h2
        exact eqv_eq I n (by show X.A.units + 1 + n < cLine; omega) (hi j x y ex ey) rx ry) _ _ _ _ ⟨.bl _, H, I, rfl, by simpa using q⟩
    · rw [decide_eq_false hl, Bool.false_and] at q
      exact SeqAt.RcNeAt.lists_lengths p1.isList p2.isList (by simp; omega) (by omega) _ _ _ _ ⟨.bl _, H, I, rfl, q⟩
  · obtain ⟨its, r1, p1, _⟩ := I.tuple h1
    obtain ⟨its2, r2, p2, _⟩ := I.tuple h2
    have l1 := r1.length
    have l2 := r2.length
    have key : ((List.range (min its.toArray.size its2.toArray.size)).all e && its.toArray.size == its2.toArray.size) = (decide (xs.length = ys.length) && (List.range xs.length).all e) := by
      by_cases hl : xs.length = ys.length
      · have e1 : its2.length = its.length := by omega
        rw [decide_eq_true hl, Bool.true_and, l1]; simp [e1]
      · have e1 : ¬ its.length = its2.length := by omega
        rw [decide_eq_false hl, Bool.false_and]; simp [e1]
    rw [← key] at q
    exact SeqAt.RcNeAt.tuples (e := e) p1 p2 (by omega) (fun j h1 h2 => by
      obtain ⟨x, ex, rx⟩ := vals_at r1 h1
      obtain ⟨y, ey, ry⟩ := vals_at r2 h2
      exact eqv_eq I n (by show X.A.units + 1 + n < cLine; omega) (hi j x y ex ey) rx ry) _ _ _ _ ⟨.bl _, H, I, rfl, q⟩
end
theorem eqV_int (x y : Int) : eqV (.int x) (.int y) = decide (x = y) := rfl
end L2
set_option Elab.async false
set_option linter.all false
namespace Sm
open PySem L2 SmSort
theorem iteO {c : Bool} {A B : Prop} {D : Ends} {σ : St} {H : Hp} (Pre : St → Hp → Prop) (k : ∀ σ H, Pre σ H → D.nx σ H) (h1 : c = true → (∀ σ H, Pre σ H → D.nx σ H) → A) (h2 : c = false → (∀ σ H, Pre σ H → D.nx σ H) → B) : if c = true then (if true = true then A else tNext D σ H) else B := by
  cases c with
  | true => exact h1 rfl k
  | false => exact h2 rfl k
theorem iteA {c : Bool} {T2 A : Prop} {D : Ends} {σ : St} {H : Hp} (Pre : St → Hp → Prop) (k : ∀ σ H, Pre σ H → D.nx σ H) (h1 : c = true → (∀ σ H, Pre σ H → D.nx σ H) → T2) (h2 : c = false → Pre σ H) : if c = true then T2 else (if false = true then A else tNext D σ H) := by
  cases c with
  | true => exact h1 rfl k
  | false => exact k _ _ (h2 rfl)
end Sm
set_option Elab.async false
set_option linter.all false
namespace Sm
open PySem L2 SmSort
theorem ixt {K : PySem.W.Frag} {H : Hp} {a : Addr} {xs : List V} {i : Int} {v : V} {Q : V → Prop} (h : H a = some (.tup xs)) (hi : atI xs i = some v) (q : Q v) : ∃ p xs' i' v', V.ref a = .ref p ∧ V.int i = .int i' ∧ SqT K H p xs' ∧ atI xs' i' = some v' ∧ Q v' := ⟨a, xs, i, v, rfl, rfl, SqT.of h, hi, q⟩
theorem ixl {K : PySem.W.Frag} {H : Hp} {a : Addr} {xs : List V} {i : Int} {v : V} {Q : V → Prop} (h : H a = some (.lst xs)) (hi : atI xs i = some v) (q : Q v) : ∃ p xs' i' v', V.ref a = .ref p ∧ V.int i = .int i' ∧ SqL K H p xs' ∧ atI xs' i' = some v' ∧ Q v' := ⟨a, xs, i, v, rfl, rfl, SqL.of h, hi, q⟩
theorem us1 {fd : FuncData} {ps : List Str} {us : List Value} (h : us.length = 1) (q : ∀ a, bindArgs fd ⟨[a], []⟩ = pure (ps.zip [a])) : bindArgs fd ⟨us, []⟩ = pure (ps.zip us) := match us, h with | [a], _ => q a
theorem us2 {fd : FuncData} {ps : List Str} {us : List Value} (h : us.length = 2) (q : ∀ a b, bindArgs fd ⟨[a, b], []⟩ = pure (ps.zip [a, b])) : bindArgs fd ⟨us, []⟩ = pure (ps.zip us) := match us, h with | [a, b], _ => q a b
theorem us3 {fd : FuncData} {ps : List Str} {us : List Value} (h : us.length = 3) (q : ∀ a b c, bindArgs fd ⟨[a, b, c], []⟩ = pure (ps.zip [a, b, c])) : bindArgs fd ⟨us, []⟩ = pure (ps.zip us) := match us, h with | [a, b, c], _ => q a b c
theorem us4 {fd : FuncData} {ps : List Str} {us : List Value} (h : us.length = 4) (q : ∀ a b c d, bindArgs fd ⟨[a, b, c, d], []⟩ = pure (ps.zip [a, b, c, d])) : bindArgs fd ⟨us, []⟩ = pure (ps.zip us) := match us, h with | [a, b, c, d], _ => q a b c d
theorem us5 {fd : FuncData} {ps : List Str} {us : List Value} (h : us.length = 5) (q : ∀ a b c d e, bindArgs fd ⟨[a, b, c, d, e], []⟩ = pure (ps.zip [a, b, c, d, e])) : bindArgs fd ⟨us, []⟩ = pure (ps.zip us) := match us, h with | [a, b, c, d, e], _ => q a b c d e
theorem ex5 {α0 α1 α2 α3 α4 : Type} {P : α0 → α1 → α2 → α3 → α4 → Prop} (x0 : α0) (x1 : α1) (x2 : α2) (x3 : α3) (x4 : α4) (h : P x0 x1 x2 x3 x4) : ∃ y0 : α0, ∃ y1 : α1, ∃ y2 : α2, ∃ y3 : α3, ∃ y4 : α4, P y0 y1 y2 y3 y4 := ⟨x0, x1, x2, x3, x4, h⟩
theorem ex6 {α0 α1 α2 α3 α4 α5 : Type} {P : α0 → α1 → α2 → α3 → α4 → α5 → Prop} (x0 : α0) (x1 : α1) (x2 : α2) (x3 : α3) (x4 : α4) (x5 : α5) (h : P x0 x1 x2 x3 x4 x5) : ∃ y0 : α0, ∃ y1 : α1, ∃ y2 : α2, ∃ y3 : α3, ∃ y4 : α4, ∃ y5 : α5, P y0 y1 y2 y3 y4 y5 := ⟨x0, x1, x2, x3, x4, x5, h⟩
theorem ex7 {α0 α1 α2 α3 α4 α5 α6 : Type} {P : α0 → α1 → α2 → α3 → α4 → α5 → α6 → Prop} (x0 : α0) (x1 : α1) (x2 : α2) (x3 : α3) (x4 : α4) (x5 : α5) (x6 : α6) (h : P x0 x1 x2 x3 x4 x5 x6) : ∃ y0 : α0, ∃ y1 : α1, ∃ y2 : α2, ∃ y3 : α3, ∃ y4 : α4, ∃ y5 : α5, ∃ y6 : α6, P y0 y1 y2 y3 y4 y5 y6 := ⟨x0, x1, x2, x3, x4, x5, x6, h⟩
theorem ex8 {α0 α1 α2 α3 α4 α5 α6 α7 : Type} {P : α0 → α1 → α2 → α3 → α4 → α5 → α6 → α7 → Prop} (x0 : α0) (x1 : α1) (x2 : α2) (x3 : α3) (x4 : α4) (x5 : α5) (x6 : α6) (x7 : α7) (h : P x0 x1 x2 x3 x4 x5 x6 x7) : ∃ y0 : α0, ∃ y1 : α1, ∃ y2 : α2, ∃ y3 : α3, ∃ y4 : α4, ∃ y5 : α5, ∃ y6 : α6, ∃ y7 : α7, P y0 y1 y2 y3 y4 y5 y6 y7 := ⟨x0, x1, x2, x3, x4, x5, x6, x7, h⟩
theorem ex9 {α0 α1 α2 α3 α4 α5 α6 α7 α8 : Type} {P : α0 → α1 → α2 → α3 → α4 → α5 → α6 → α7 → α8 → Prop} (x0 : α0) (x1 : α1) (x2 : α2) (x3 : α3) (x4 : α4) (x5 : α5) (x6 : α6) (x7 : α7) (x8 : α8) (h : P x0 x1 x2 x3 x4 x5 x6 x7 x8) : ∃ y0 : α0, ∃ y1 : α1, ∃ y2 : α2, ∃ y3 : α3, ∃ y4 : α4, ∃ y5 : α5, ∃ y6 : α6, ∃ y7 : α7, ∃ y8 : α8, P y0 y1 y2 y3 y4 y5 y6 y7 y8 := ⟨x0, x1, x2, x3, x4, x5, x6, x7, x8, h⟩
theorem un2 {K : PySem.W.Frag} {H : Hp} {a : Addr} {v0 v1 : V} {Q : V → V → Prop} (h : H a = some (.tup [v0, v1])) (q : Q v0 v1) : ∃ a' xs, V.ref a = .ref a' ∧ SqT K H a' xs ∧ xs.length = 2 ∧ ∃ w0 r0, xs = w0 :: r0 ∧ ∃ w1 r1, r0 = w1 :: r1 ∧ r1 = [] ∧ Q w0 w1 := ⟨a, _, rfl, SqT.of h, rfl, _, _, rfl, _, _, rfl, rfl, q⟩
theorem un3 {K : PySem.W.Frag} {H : Hp} {a : Addr} {v0 v1 v2 : V} {Q : V → V → V → Prop} (h : H a = some (.tup [v0, v1, v2])) (q : Q v0 v1 v2) : ∃ a' xs, V.ref a = .ref a' ∧ SqT K H a' xs ∧ xs.length = 3 ∧ ∃ w0 r0, xs = w0 :: r0 ∧ ∃ w1 r1, r0 = w1 :: r1 ∧ ∃ w2 r2, r1 = w2 :: r2 ∧ r2 = [] ∧ Q w0 w1 w2 := ⟨a, _, rfl, SqT.of h, rfl, _, _, rfl, _, _, rfl, _, _, rfl, rfl, q⟩
theorem un4 {K : PySem.W.Frag} {H : Hp} {a : Addr} {v0 v1 v2 v3 : V} {Q : V → V → V → V → Prop} (h : H a = some (.tup [v0, v1, v2, v3])) (q : Q v0 v1 v2 v3) : ∃ a' xs, V.ref a = .ref a' ∧ SqT K H a' xs ∧ xs.length = 4 ∧ ∃ w0 r0, xs = w0 :: r0 ∧ ∃ w1 r1, r0 = w1 :: r1 ∧ ∃ w2 r2, r1 = w2 :: r2 ∧ ∃ w3 r3, r2 = w3 :: r3 ∧ r3 = [] ∧ Q w0 w1 w2 w3 := ⟨a, _, rfl, SqT.of h, rfl, _, _, rfl, _, _, rfl, _, _, rfl, _, _, rfl, rfl, q⟩
theorem zr {α : Sort _} {A Q : α → Prop} {x : α} (a : A x) (q : Q x) : ∃ y, A y ∧ Q y := ⟨x, a, q⟩
theorem zr1 {α β : Sort _} {A Q : α → β → Prop} {x : α} {y : β} (a : A x y) (q : Q x y) : ∃ x y, A x y ∧ Q x y := ⟨x, y, a, q⟩
theorem zr2 {α β : Sort _} {A B Q : α → β → Prop} {x : α} {y : β} (a : A x y) (b : B x y) (q : Q x y) : ∃ x y, A x y ∧ B x y ∧ Q x y := ⟨x, y, a, b, q⟩
end Sm
set_option Elab.async false
set_option linter.all false
set_option maxRecDepth 100000
set_option maxHeartbeats 400000
namespace Sm
open PySem L2 SmSort
theorem inv_self {K : PySem.W.Frag} {t : Value} : PySem.W.kitOne K t t = some true := by
  unfold PySem.W.kitOne
  rw [if_pos (beq_self_eq_true t)]
end Sm
namespace Sm
open PySem L2 SmSort
theorem app_kit {K : PySem.W.Frag} {D : Ends} {σ : St} {H : Hp} {i j : Nat} {l x C : Addr} {xs cs : List V} {b : Bool} {ta : TA} (e2 : σ[i]? = some (some (.ref l))) (e3 : σ[j]? = some (some (.ref x))) (hl : H l = some (.lst xs)) (hx : H x = some (excO x C)) (xc : XCls K C)
    (hc : cs.all isCls = true) (hk : PySem.W.kitAny K (.ref C) (cs.map vv) = some b) (n1 : xs.length ≤ 50) (n2 : cs.length ≤ 50) (ht : ∀ (H' : Hp) (Q : List V → Hp → Prop), Q cs H' → ta σ H' Q)
    (q : ∀ H', But l H H' → H' l = some (.lst (xs ++ [.bl b])) → H' x = some (excO x C) → D.nx σ H') :
    tDrop (tBM K "list" rAppend (tVar i) (tCons (tCB (fun xs H Q => ∃ a C tp cs b, xs = [V.ref a, V.ref tp] ∧ H a = some (excO a C) ∧ XCls K C ∧ SqT K H tp cs ∧ cs.all isCls = true ∧ PySem.W.kitAny K (Value.ref C) (List.map vv cs) = some b ∧ Q (V.bl b) H) (tCons (tVar j) (tCons (tTup ta) tNil))) tNil)) D σ H := by
  have line : 1002 ≤ sizeLine := by rw [sizeLine_eq]; decide
  refine ⟨_, e2, .inl ⟨rfl, _, SqL.of hl⟩, _, e3, ht _ _ ⟨by omega, fun tp htp => ?_⟩⟩
  have s1 := same_new (o := HO.tup cs) htp
  have nx : x ≠ l := ne_of hx hl (by intro z; cases z)
  exact ⟨x, C, tp, cs, b, rfl, s1 _ _ hx, xc, SqT.of upd_same, hc, hk, l, xs, _, rfl, rfl, s1 _ _ hl, by omega, q _ ((show But l H _ from fun _ _ _ e => s1 _ _ e).trans But.set) upd_same (by rw [upd_ne nx]; exact s1 _ _ hx)⟩
end Sm
namespace Sm
open PySem L2 SmSort
end Sm
set_option Elab.async false
set_option linter.all false
set_option maxRecDepth 100000
set_option maxHeartbeats 400000
namespace SmSet
open PySem
theorem below_go {xs : Array Nat} {j : Nat} (so : xs.toList.Pairwise (· < ·)) : ∀ (fuel lo hi : Nat), hi - lo ≤ fuel → lo ≤ hi → hi ≤ xs.size → (∀ i (h : i < xs.size), i < lo → xs[i] < j) → (∀ i (h : i < xs.size), hi ≤ i → j ≤ xs[i]) →
    SetTable.below.go xs j fuel lo hi ≤ xs.size ∧ (∀ i (h : i < xs.size), i < SetTable.below.go xs j fuel lo hi → xs[i] < j) ∧ ∀ i (h : i < xs.size), SetTable.below.go xs j fuel lo hi ≤ i → j ≤ xs[i]
  | 0, lo, hi, hf, h1, h2, hl, hh => by
    have : lo = hi := by omega
    subst this
    unfold SetTable.below.go
    exact ⟨h2, hl, hh⟩
  | fuel + 1, lo, hi, hf, h1, h2, hl, hh => by
    unfold SetTable.below.go
    have mono : ∀ a b (ha : a < xs.size) (hb : b < xs.size), a < b → xs[a] < xs[b] := fun a b ha hb ab => by
      have := List.pairwise_iff_getElem.mp so a b (by simpa using ha) (by simpa using hb) ab
      simpa using this
    by_cases c : lo < hi
    · rw [if_pos c]
      dsimp only
      have hm : (lo + hi) / 2 < xs.size := by omega
      have e : xs.getD ((lo + hi) / 2) j = xs[(lo + hi) / 2] := by simp [Array.getD, hm]
      rw [e]
      by_cases d : xs[(lo + hi) / 2] < j
      · rw [if_pos d]
        refine below_go so fuel _ _ (by omega) (by omega) h2 (fun i h hi' => ?_) hh
        by_cases q : i = (lo + hi) / 2
        · subst q; exact d
        · exact Nat.lt_trans (mono i ((lo + hi) / 2) h hm (by omega)) d
      · rw [if_neg d]
        refine below_go so fuel _ _ (by omega) (by omega) (by omega) hl (fun i h hi' => ?_)
        by_cases q : i = (lo + hi) / 2
        · subst q; omega
        · have := mono ((lo + hi) / 2) i hm h (by omega)
          omega
    · rw [if_neg c]
      have : lo = hi := by omega
      subst this
      exact ⟨h2, hl, hh⟩
theorem below_spec {xs : Array Nat} {j : Nat} (so : xs.toList.Pairwise (· < ·)) : SetTable.below xs j ≤ xs.size ∧ (∀ i (h : i < xs.size), i < SetTable.below xs j → xs[i] < j) ∧ ∀ i (h : i < xs.size), SetTable.below xs j ≤ i → j ≤ xs[i] :=
  below_go so _ _ _ (by omega) (by omega) (Nat.le_refl _) (fun _ _ h => absurd h (Nat.not_lt_zero _)) (fun i h hi => absurd h (by omega))
theorem below_at {xs : Array Nat} {j i : Nat} (so : xs.toList.Pairwise (· < ·)) (h : xs[i]? = some j) : SetTable.below xs j = i := by
  obtain ⟨hi, e⟩ := Array.getElem?_eq_some_iff.mp h
  obtain ⟨b1, b2, b3⟩ := below_spec (j := j) so
  rcases Nat.lt_trichotomy (SetTable.below xs j) i with c | c | c
  · have hb : SetTable.below xs j < xs.size := by omega
    have := b3 _ hb (Nat.le_refl _)
    have m := List.pairwise_iff_getElem.mp so (SetTable.below xs j) i (by simpa using hb) (by simpa using hi) c
    simp only [Array.getElem_toList] at m
    omega
  · exact c
  · have := b2 i hi c
    omega
theorem slot_live {t : SetTable} {j i : Nat} (so : t.place.toList.Pairwise (· < ·)) (h : t.place[i]? = some j) : t.slot j = .live i := by
  unfold SetTable.slot
  dsimp only
  rw [below_at so h, h]
  simp
theorem slot_empty {t : SetTable} {j : Nat} (nd : t.dummies = #[]) (h : j ∉ t.place.toList) : t.slot j = .empty := by
  unfold SetTable.slot
  dsimp only
  rw [if_neg, if_neg]
  · rw [nd]
    unfold SetTable.has
    simp
  · intro c
    have : t.place[SetTable.below t.place j]? = some j := by simpa using c
    exact h (by simpa using Array.mem_of_getElem? this)
def adv (m : Nat) (p : SetTable.Probe) : SetTable.Probe :=
  if p.more > 0 then { p with j := p.j + 1, more := p.more - 1 } else
  { p with j := (SetTable.leap m p.i p.perturb).1, more := SetTable.runEnd m (SetTable.leap m p.i p.perturb).1 - (SetTable.leap m p.i p.perturb).1, i := (SetTable.leap m p.i p.perturb).1, perturb := (SetTable.leap m p.i p.perturb).2 }
theorem advance_eq (t : SetTable) (p : SetTable.Probe) : t.advance p = adv t.mask p := rfl
def run (m i u : Nat) : SetTable.Probe := { j := i, more := SetTable.runEnd m i - i, i, perturb := u, dummy := none }
def start (m : Nat) (h : Int) : SetTable.Probe := run m (SetTable.bits h % (m + 1)) (SetTable.bits h)
def ad (m : Nat) : Nat → SetTable.Probe → SetTable.Probe
  | 0, p => p
  | n + 1, p => ad m n (adv m p)
theorem ad_succ (m n : Nat) (p : SetTable.Probe) : ad m (n + 1) p = adv m (ad m n p) := by
  induction n generalizing p with
  | zero => rfl
  | succ n ih => exact ih (adv m p)
theorem ad_add (m a b : Nat) (p : SetTable.Probe) : ad m (a + b) p = ad m b (ad m a p) := by
  induction a generalizing p with
  | zero => rw [Nat.zero_add]; rfl
  | succ a ih => rw [Nat.succ_add]; exact ih (adv m p)
theorem adv_dummy {m : Nat} {p : SetTable.Probe} : (adv m p).dummy = p.dummy := by unfold adv; split <;> rfl
theorem ad_dummy {m : Nat} : ∀ {n : Nat} {p : SetTable.Probe}, (ad m n p).dummy = p.dummy
  | 0, _ => rfl
  | n + 1, p => (ad_dummy (n := n)).trans adv_dummy
def at' (m : Nat) (h : Int) (n : Nat) : Nat := (ad m n (start m h)).j
theorem ad_in_run {m i u : Nat} : ∀ k, k ≤ SetTable.runEnd m i - i → ad m k (run m i u) = { j := i + k, more := SetTable.runEnd m i - i - k, i, perturb := u, dummy := none }
  | 0, _ => rfl
  | k + 1, h => by
    rw [ad_succ, ad_in_run k (by omega)]
    unfold adv
    dsimp only
    rw [if_pos (by omega)]
    rfl
theorem ad_next_run {m i u : Nat} : ad m (SetTable.runEnd m i - i + 1) (run m i u) = run m ((i * 5 + 1 + u / 32) % (m + 1)) (u / 32) := by
  rw [ad_succ, ad_in_run _ (Nat.le_refl _)]
  unfold adv
  dsimp only
  rw [if_neg (by omega)]
  rfl
theorem runEnd_le {m i : Nat} : SetTable.runEnd m i - i ≤ 9 ∧ i ≤ SetTable.runEnd m i ∧ (i ≤ m → SetTable.runEnd m i ≤ m) := by
  unfold SetTable.runEnd
  split <;> omega
def runs (m : Nat) : Nat → Nat → Nat → Nat × Nat
  | 0, i, u => (i, u)
  | r + 1, i, u => runs m r ((i * 5 + 1 + u / 32) % (m + 1)) (u / 32)
theorem runs_at {m : Nat} : ∀ (r i u : Nat), ∃ c, c ≤ 10 * r ∧ ad m c (run m i u) = run m (runs m r i u).1 (runs m r i u).2
  | 0, i, u => ⟨0, Nat.le_refl _, rfl⟩
  | r + 1, i, u => by
    obtain ⟨c, hc, e⟩ := runs_at r ((i * 5 + 1 + u / 32) % (m + 1)) (u / 32)
    refine ⟨SetTable.runEnd m i - i + 1 + c, ?_, ?_⟩
    · have := (runEnd_le (m := m) (i := i)).1; omega
    · rw [ad_add, ad_next_run, e]; rfl
theorem runs_add {m : Nat} : ∀ (a b i u : Nat), runs m (a + b) i u = runs m b (runs m a i u).1 (runs m a i u).2
  | 0, b, i, u => by rw [Nat.zero_add]; rfl
  | a + 1, b, i, u => by rw [Nat.succ_add]; exact runs_add a b _ _
theorem runs_perturb {m : Nat} : ∀ (r i u : Nat), (runs m r i u).2 = u / 32 ^ r
  | 0, i, u => by simp [runs]
  | r + 1, i, u => by
    show (runs m r _ (u / 32)).2 = _
    rw [runs_perturb r, Nat.div_div_eq_div_mul, Nat.pow_succ, Nat.mul_comm]
theorem runs_small {m : Nat} : ∀ (r i u : Nat), i ≤ m → (runs m r i u).1 ≤ m
  | 0, i, u, h => h
  | r + 1, i, u, h => runs_small r _ _ (Nat.lt_succ_iff.mp (Nat.mod_lt _ (by omega)))
def f5 (m : Nat) : Nat → Nat → Nat
  | 0, i => i
  | s + 1, i => f5 m s ((i * 5 + 1) % (m + 1))
theorem runs_f5 {m : Nat} : ∀ (s i : Nat), (runs m s i 0).1 = f5 m s i
  | 0, i => rfl
  | s + 1, i => by
    show (runs m s ((i * 5 + 1 + 0 / 32) % (m + 1)) (0 / 32)).1 = f5 m s ((i * 5 + 1) % (m + 1))
    rw [Nat.zero_div, Nat.add_zero]
    exact runs_f5 s _
theorem f5_add {m : Nat} : ∀ (a b i : Nat), f5 m (a + b) i = f5 m b (f5 m a i)
  | 0, b, i => by rw [Nat.zero_add]; rfl
  | a + 1, b, i => by rw [Nat.succ_add]; exact f5_add a b _
def bitsOf (m : Nat) : Nat → Nat → Nat → Nat
  | 0, _, acc => acc
  | s + 1, i, acc => bitsOf m s ((i * 5 + 1) % (m + 1)) (acc ||| (2 ^ i))
theorem bitsOf_spec {m j : Nat} : ∀ (s i acc : Nat), (bitsOf m s i acc).testBit j = true → acc.testBit j = true ∨ ∃ a, a < s ∧ f5 m a i = j
  | 0, i, acc, h => .inl h
  | s + 1, i, acc, h => by
    rcases bitsOf_spec s _ _ h with h | ⟨a, ha, e⟩
    · rw [Nat.testBit_or, Bool.or_eq_true] at h
      rcases h with h | h
      · exact .inl h
      · rw [Nat.testBit_two_pow] at h
        exact .inr ⟨0, by omega, of_decide_eq_true h⟩
    · exact .inr ⟨a + 1, by omega, e⟩
def Mask (m : Nat) : Prop := m = 7 ∨ m = 31 ∨ m = 127 ∨ m = 511 ∨ m = 2047 ∨ m = 8191
theorem cover0 {m : Nat} (hm : Mask m) : f5 m (m + 1) 0 = 0 ∧ ∀ j, j ≤ m → ∃ a, a ≤ m ∧ f5 m a 0 = j := by
  have key : f5 m (m + 1) 0 = 0 ∧ bitsOf m (m + 1) 0 0 = 2 ^ (m + 1) - 1 := by
    rcases hm with rfl | rfl | rfl | rfl | rfl | rfl <;> constructor <;> decide +kernel
  refine ⟨key.1, fun j hj => ?_⟩
  have : (bitsOf m (m + 1) 0 0).testBit j = true := by
    rw [key.2, Nat.testBit_two_pow_sub_one]
    exact decide_eq_true (by omega)
  rcases bitsOf_spec _ _ _ this with h | ⟨a, ha, e⟩
  · simp at h
  · exact ⟨a, by omega, e⟩
theorem cover {m i j : Nat} (hm : Mask m) (hi : i ≤ m) (hj : j ≤ m) : ∃ s, s ≤ m ∧ f5 m s i = j := by
  obtain ⟨z, all⟩ := cover0 hm
  obtain ⟨a, ha, rfl⟩ := all i hi
  obtain ⟨b, hb, rfl⟩ := all j hj
  by_cases c : a ≤ b
  · exact ⟨b - a, by omega, by rw [← f5_add]; congr 1; omega⟩
  · refine ⟨b + (m + 1) - a, by omega, ?_⟩
    rw [← f5_add, show a + (b + (m + 1) - a) = (m + 1) + b from by omega, f5_add, z]
theorem reach {m i u j : Nat} (hm : Mask m) (hi : i ≤ m) (hu : u < 2 ^ 64) (hj : j ≤ m) : ∃ r, r ≤ m + 13 ∧ (runs m r i u).1 = j := by
  have p0 : (runs m 13 i u).2 = 0 := by
    rw [runs_perturb]
    exact Nat.div_eq_of_lt (Nat.lt_of_lt_of_le hu (by decide))
  obtain ⟨s, hs, e⟩ := cover hm (runs_small 13 i u hi) hj
  refine ⟨13 + s, by omega, ?_⟩
  rw [runs_add, p0, runs_f5, e]
theorem bits_lt (h : Int) : SetTable.bits h < 2 ^ 64 := by
  unfold SetTable.bits
  have a := Int.emod_nonneg h (show (2 ^ 64 : Int) ≠ 0 by decide)
  have b := Int.emod_lt_of_pos h (show (0 : Int) < 2 ^ 64 by decide)
  have c : ((h % 2 ^ 64).toNat : Int) = h % 2 ^ 64 := Int.toNat_of_nonneg a
  have d : ((2 ^ 64 : Nat) : Int) = (2 : Int) ^ 64 := by decide
  omega
theorem reach_at {m j : Nat} {h : Int} (hm : Mask m) (hj : j ≤ m) : ∃ n, n ≤ 10 * (m + 13) ∧ at' m h n = j := by
  obtain ⟨r, hr, e⟩ := reach (u := SetTable.bits h) hm (Nat.lt_succ_iff.mp (Nat.mod_lt (SetTable.bits h) (show 0 < m + 1 by omega))) (bits_lt h) hj
  obtain ⟨c, hc, e2⟩ := runs_at (m := m) r (SetTable.bits h % (m + 1)) (SetTable.bits h)
  refine ⟨c, by omega, ?_⟩
  unfold at' start
  rw [e2, e]; rfl
theorem least {P : Nat → Prop} : ∀ n, P n → ∃ k, k ≤ n ∧ P k ∧ ∀ i, i < k → ¬ P i := by
  intro n
  induction n using Nat.strongRecOn with
  | _ n ih =>
    intro h
    by_cases c : ∃ i, i < n ∧ P i
    · obtain ⟨i, hi, pi⟩ := c
      obtain ⟨k, hk, pk, al⟩ := ih i hi pi
      exact ⟨k, by omega, pk, al⟩
    · exact ⟨n, Nat.le_refl _, h, fun i hi pi => c ⟨i, hi, pi⟩⟩
theorem first_free {m : Nat} {O : Nat → Prop} (h : Int) (hm : Mask m) (he : ∃ j, j ≤ m ∧ ¬ O j) : ∃ N, N ≤ 10 * (m + 13) ∧ ¬ O (at' m h N) ∧ ∀ n, n < N → O (at' m h n) := by
  obtain ⟨j, hj, no⟩ := he
  obtain ⟨n, hn, e⟩ := reach_at (h := h) hm hj
  obtain ⟨k, hk, pk, al⟩ := least (P := fun n => ¬ O (at' m h n)) n (by rw [e]; exact no)
  exact ⟨k, by omega, pk, fun i hi => Classical.byContradiction fun c => al i hi c⟩
theorem at_le {m : Nat} {h : Int} : ∀ n, at' m h n ≤ m := by
  have key : ∀ n, (ad m n (start m h)).j + (ad m n (start m h)).more ≤ m := by
    have step : ∀ p : SetTable.Probe, p.j + p.more ≤ m → (adv m p).j + (adv m p).more ≤ m := fun p hp => by
      unfold adv
      split
      · dsimp only; omega
      · dsimp only
        have l : (SetTable.leap m p.i p.perturb).1 ≤ m := Nat.lt_succ_iff.mp (Nat.mod_lt _ (by omega))
        have := runEnd_le (m := m) (i := (SetTable.leap m p.i p.perturb).1)
        have := this.2.2 l
        omega
    intro n
    induction n with
    | zero =>
      show SetTable.bits h % (m + 1) + (SetTable.runEnd m (SetTable.bits h % (m + 1)) - SetTable.bits h % (m + 1)) ≤ m
      have l : SetTable.bits h % (m + 1) ≤ m := Nat.lt_succ_iff.mp (Nat.mod_lt _ (by omega))
      have := runEnd_le (m := m) (i := SetTable.bits h % (m + 1))
      have := this.2.2 l
      omega
    | succ n ih => rw [ad_succ]; exact step _ ih
  intro n
  have := key n
  unfold at'
  omega
end SmSet
set_option Elab.async false
set_option linter.all false
set_option maxRecDepth 100000
set_option maxHeartbeats 400000
namespace SmSet
open PySem
structure Tab (t : SetTable) (es : Array (Int × Value)) : Prop where
  mask : Mask t.mask
  nd : t.dummies = #[]
  so : t.place.toList.Pairwise (· < ·)
  sz : t.place.size = es.size
  small : ∀ j ∈ t.place.toList, j ≤ t.mask
  light : es.size * 5 < t.mask * 3
  way : ∀ i (h : i < es.size), ∃ n, t.place[i]? = some (at' t.mask es[i].1 n) ∧ ∀ n', n' < n → at' t.mask es[i].1 n' ∈ t.place.toList
theorem Tab.room {t : SetTable} {es : Array (Int × Value)} (T : Tab t es) : es.size ≤ t.mask := by have := T.light; omega
theorem Tab.fits {t : SetTable} {es : Array (Int × Value)} (T : Tab t es) : t.fits es.size = true := by
  unfold SetTable.fits SetTable.fill
  have := T.room
  rw [T.sz, T.nd]
  simp
  exact this
theorem Tab.odd {t : SetTable} {es : Array (Int × Value)} (T : Tab t es) : t.gaveWay = false := by
  unfold SetTable.gaveWay
  rcases T.mask with h | h | h | h | h | h <;> rw [h] <;> rfl
theorem as_long : ∀ (n : Nat) (l : List Nat), (∀ j, j < n → j ∈ l) → n ≤ l.length
  | 0, _, _ => Nat.zero_le _
  | n + 1, l, h => by
    have := as_long n (l.erase n) fun j hj => (List.mem_erase_of_ne (by omega)).mpr (h j (by omega))
    rw [List.length_erase_of_mem (h n (by omega))] at this
    have := List.length_pos_of_mem (h n (by omega))
    omega
theorem left_out {l : List Nat} {m : Nat} (h : l.length ≤ m) : ∃ j, j ≤ m ∧ j ∉ l := by
  refine Classical.byContradiction fun c => ?_
  have := as_long (m + 1) l fun j hj => Classical.byContradiction fun z => c ⟨j, by omega, z⟩
  omega
theorem Tab.left {t : SetTable} {es : Array (Int × Value)} (T : Tab t es) : ∃ j, j ≤ t.mask ∧ ¬ j ∈ t.place.toList := by
  have := left_out (l := t.place.toList) (m := t.mask) (by rw [Array.length_toList, T.sz]; exact T.room)
  exact this
theorem Tab.first {t : SetTable} {es : Array (Int × Value)} (T : Tab t es) (h : Int) : ∃ N, N ≤ 10 * (t.mask + 13) ∧ ¬ at' t.mask h N ∈ t.place.toList ∧ ∀ n, n < N → at' t.mask h n ∈ t.place.toList := first_free h T.mask T.left
theorem at_index {t : SetTable} {j : Nat} (h : j ∈ t.place.toList) : ∃ i : Nat, t.place[i]? = some j := by
  obtain ⟨i, hi, e⟩ := List.getElem_of_mem h
  exact ⟨i, by rw [← Array.getElem?_toList, List.getElem?_eq_getElem hi, e]⟩
theorem probe_go {t : SetTable} {es : Array (Int × Value)} (T : Tab t es) {hashAt : Nat → Int} {h : Int} {N : Nat} (hN : ¬ at' t.mask h N ∈ t.place.toList) (hall : ∀ n, n < N → at' t.mask h n ∈ t.place.toList) :
    ∀ (d k fuel : Nat), N - k = d → k ≤ N → d < fuel →
      (∃ n i, k ≤ n ∧ n < N ∧ t.place[i]? = some (at' t.mask h n) ∧ hashAt i = h ∧ (∀ n', k ≤ n' → n' < n → ∀ i', t.place[i']? = some (at' t.mask h n') → hashAt i' ≠ h) ∧ SetTable.probe.go t hashAt h fuel (ad t.mask k (start t.mask h)) = some (.candidate (at' t.mask h n) i (ad t.mask (n + 1) (start t.mask h)))) ∨
      ((∀ n', k ≤ n' → n' < N → ∀ i', t.place[i']? = some (at' t.mask h n') → hashAt i' ≠ h) ∧ SetTable.probe.go t hashAt h fuel (ad t.mask k (start t.mask h)) = some (.empty (at' t.mask h N) none))
  | d, k, 0, e, hk, hf => absurd hf (Nat.not_lt_zero _)
  | 0, k, fuel + 1, e, hk, hf => by
    have : k = N := by omega
    subst this
    refine .inr ⟨fun n' h1 h2 => absurd h1 (by omega), ?_⟩
    unfold SetTable.probe.go
    rw [show (ad t.mask k (start t.mask h)).j = at' t.mask h k from rfl, slot_empty T.nd hN]
    dsimp only
    rw [ad_dummy]
    rfl
  | d + 1, k, fuel + 1, e, hk, hf => by
    obtain ⟨i, hi⟩ := at_index (hall k (by omega))
    by_cases c : hashAt i = h
    · refine .inl ⟨k, i, Nat.le_refl _, by omega, hi, c, fun n' h1 h2 => absurd h1 (by omega), ?_⟩
      unfold SetTable.probe.go
      rw [show (ad t.mask k (start t.mask h)).j = at' t.mask h k from rfl, slot_live T.so hi]
      dsimp only
      rw [if_pos (by rw [c]; simp), advance_eq, ← ad_succ]
    · have step : SetTable.probe.go t hashAt h (fuel + 1) (ad t.mask k (start t.mask h)) = SetTable.probe.go t hashAt h fuel (ad t.mask (k + 1) (start t.mask h)) := by
        conv => lhs; unfold SetTable.probe.go
        rw [show (ad t.mask k (start t.mask h)).j = at' t.mask h k from rfl, slot_live T.so hi]
        dsimp only
        rw [if_neg (by simpa using c), advance_eq, ← ad_succ]
      have here : ∀ i', t.place[i']? = some (at' t.mask h k) → hashAt i' ≠ h := fun i' hi' => by
        have := (below_at T.so hi').symm.trans (below_at T.so hi)
        rw [this]; exact c
      rw [step]
      rcases probe_go T hN hall d (k + 1) fuel (by omega) (by omega) (by omega) with ⟨n, i2, a1, a2, a3, a4, a5, a6⟩ | ⟨a1, a2⟩
      · refine .inl ⟨n, i2, by omega, a2, a3, a4, fun n' h1 h2 i' hi' => ?_, a6⟩
        by_cases q : n' = k
        · subst q; exact here i' hi'
        · exact a5 n' (by omega) h2 i' hi'
      · refine .inr ⟨fun n' h1 h2 i' hi' => ?_, a2⟩
        by_cases q : n' = k
        · subst q; exact here i' hi'
        · exact a1 n' (by omega) h2 i' hi'
end SmSet
set_option Elab.async false
set_option linter.all false
set_option maxRecDepth 100000
set_option maxHeartbeats 400000
namespace SmSet
open PySem
section
variable {prog : Program} {w : World} {K : Type} [DecidableEq K] {knd : HeapKind prog w K} {A : Around} {E : Value → Shared → Prop} {s : Shared} {a : Addr}
def Keys (knd : HeapKind prog w K) (h : Heap) (es : Array (Int × Value)) (ks : Nat → K) : Prop := ∀ i (hi : i < es.size), ∃ b, es[i] = (knd.hash (ks i), .ref b) ∧ knd.is h (ks i) b
def Calm (knd : HeapKind prog w K) (A : Around) (s : Shared) : Prop := ∀ (k : K) (b : Addr), knd.is s.heap k b → ∀ (E : Value → Shared → Prop) (Q : Bool → Shared → Prop), Q false s → wpAny (model prog w) A (ofAClassStatement 8 (.ref b)) Q E s
theorem not_seen {k : K} {c : Addr} (hk : knd.is s.heap k c) (cl : Calm knd A s) : ∀ (ys : List Value), (∀ y ∈ ys, ∃ k b, y = .ref b ∧ knd.is s.heap k b) → ∀ {Q : Bool → Shared → Prop}, Q false s → wpAny (model prog w) A (searchCouldBeSeen (.ref c) ys) Q E s := by
  intro ys hy Q q
  unfold searchCouldBeSeen
  refine wpAny_bind ?_
  refine wpAny_forIn_list _ (fun rest r s' => r.1 = none ∧ s' = s ∧ ∀ y ∈ rest, ∃ k b, y = .ref b ∧ knd.is s.heap k b) _ ?_ ?_ _ _ ⟨rfl, rfl, hy⟩
  · rintro y rest r s' ⟨hr, rfl, hall⟩
    obtain ⟨k2, b, rfl, hb⟩ := hall _ List.mem_cons_self
    have next : ∀ u ∈ rest, ∃ k b, u = Value.ref b ∧ knd.is s'.heap k b := fun u hu => hall u (List.mem_cons_of_mem _ hu)
    dsimp only
    split
    · exact wpAny_pure ⟨rfl, rfl, next⟩
    · refine wpAny_bind (knd.quiet hk ?_)
      simp only [Bool.not_true, Bool.false_eq_true, if_false]
      refine wpAny_bind (knd.quiet hb ?_)
      simp only [Bool.not_true, Bool.false_eq_true, if_false]
      refine wpAny_bind (cl _ _ hk _ _ ?_)
      simp only [Bool.false_eq_true, if_false]
      refine wpAny_bind (cl _ _ hb _ _ ?_)
      simp only [Bool.false_eq_true, if_false]
      exact wpAny_pure ⟨rfl, rfl, next⟩
  · rintro ⟨r1, r2⟩ s' ⟨hr, rfl, _⟩
    simp only at hr
    subst hr
    exact wpAny_pure q
theorem search {o : Obj} {es : Array (Int × Value)} {ep : Nat} {t : SetTable} {ks : Nat → K} {kx : K} {c : Addr} {adding : Bool} {Q : SetFound → Shared → Prop} (hr : knd.room A) (ho : s.heap.get? a = some o) (hd : o.data = .set es ep t) (T : Tab t es) (ke : Keys knd s.heap es ks) (hx : knd.is s.heap kx c) (cl : Calm knd A s)
    (qt : ∀ r : Option Nat, (r = none → adding = true) → (∃ i, i < es.size ∧ ks i = kx) → Q (.there r) s) {N : Nat} (hN : ¬ at' t.mask (knd.hash kx) N ∈ t.place.toList) (hall : ∀ n, n < N → at' t.mask (knd.hash kx) n ∈ t.place.toList) (hNb : N ≤ 10 * (t.mask + 13))
    (qf : (∀ i, i < es.size → ks i ≠ kx) → Q (.free (at' t.mask (knd.hash kx) N) false) s) :
    ∀ (fuel k : Nat) (st : Option SetTable.Probe), N - k < fuel → k ≤ N → st.getD (t.probeStart (knd.hash kx)) = ad t.mask k (start t.mask (knd.hash kx)) → (∀ n', n' < k → ∀ i', t.place[i']? = some (at' t.mask (knd.hash kx) n') → ks i' ≠ kx) →
      wpAny (model prog w) A (setSearchFrom a (.ref c) (knd.hash kx) adding fuel st) Q E s
  | 0, k, st, hf, _, _, _ => absurd hf (Nat.not_lt_zero _)
  | fuel + 1, k, st, hf, hk, hst, prev => by
    unfold setSearchFrom
    refine wpAny_bind (wpAny_setState_of ho hd T.fits ?_)
    dsimp only
    rw [T.odd, hst]
    simp only [Bool.false_eq_true, if_false]
    unfold SetTable.probe
    rcases probe_go T hN hall (hashAt := fun i => ((es[i]?).map (·.1)).getD 0) _ k (10 * SetTable.turns t.mask) rfl hk (by unfold SetTable.turns; omega) with ⟨n, i, a1, a2, a3, a4, a5, a6⟩ | ⟨a1, a2⟩
    · generalize hp : SetTable.probe.go t _ (knd.hash kx) (10 * SetTable.turns t.mask) (ad t.mask k (start t.mask (knd.hash kx))) = pr
      have e := hp.symm.trans a6
      subst e
      have hi : i < es.size := by
        have := (Array.getElem?_eq_some_iff.mp a3).1
        rw [T.sz] at this; exact this
      obtain ⟨b, eb, hb⟩ := ke i hi
      have eg : es[i]? = some (knd.hash (ks i), .ref b) := by rw [← eb]; exact Array.getElem?_eq_getElem hi
      dsimp only
      rw [eg]
      dsimp only
      have sl := slot_live T.so a3
      have mem : t.sameMemory t.moves t.mask = some true := by simp [SetTable.sameMemory]
      have again := search (adding := adding) hr ho hd T ke hx cl qt hN hall hNb qf fuel (n + 1) (some (ad t.mask (n + 1) (start t.mask (knd.hash kx)))) (by omega) (by omega) rfl
      have more : ks i ≠ kx → ∀ n', n' < n + 1 → ∀ i', t.place[i']? = some (at' t.mask (knd.hash kx) n') → ks i' ≠ kx := fun ne n' hn i' hi' => by
        by_cases q : n' < k
        · exact prev n' q i' hi'
        by_cases q2 : n' = n
        · subst q2
          have := (below_at T.so hi').symm.trans (below_at T.so a3)
          rw [this]; exact ne
        · intro z
          have hl : i' < es.size := by
            have := (Array.getElem?_eq_some_iff.mp hi').1
            rw [T.sz] at this; exact this
          obtain ⟨b', eb', _⟩ := ke i' hl
          exact a5 n' (by omega) (by omega) i' hi' (by simp [eb', hl, z])
      have stored : ∀ y ∈ List.map (fun x => x.snd) (Array.filter (fun x => x.fst == knd.hash kx) es).toList, ∃ k b, y = Value.ref b ∧ knd.is s.heap k b := fun y hy => by
        obtain ⟨e, he, rfl⟩ := List.mem_map.mp hy
        have he : e ∈ es := by
          have : e ∈ es ∧ e.fst = knd.hash kx := by simpa using he
          exact this.1
        obtain ⟨j, hj, rfl⟩ := Array.getElem_of_mem he
        obtain ⟨b', eb', hb'⟩ := ke j hj
        exact ⟨_, b', by rw [eb'], hb'⟩
      split
      · refine wpAny_bind (not_seen hx cl _ stored ?_)
        simp only [Bool.false_eq_true, if_false]
        refine wpAny_bind (wpAny_holding (knd.eqBool hr hb hx ?_))
        refine wpAny_bind (wpAny_setState_of ho hd T.fits ?_)
        dsimp only
        rw [mem]
        dsimp only
        rw [if_pos (show (true = true) from rfl), sl]
        dsimp only
        rw [eg]
        dsimp only
        by_cases q : ks i = kx
        · rw [decide_eq_true q]
          cases adding with
          | true => exact wpAny_pure (qt _ (fun _ => rfl) ⟨i, hi, q⟩)
          | false =>
            simp only [Bool.false_and, Bool.false_eq_true, if_false]
            refine wpAny_bind (wpAny_isSame_ref_self ?_)
            exact wpAny_pure (qt _ (fun z => by cases z) ⟨i, hi, q⟩)
        · rw [decide_eq_false q]
          simp only [Bool.and_false, Bool.false_eq_true, if_false]
          refine wpAny_bind (wpAny_isSame_ref_self ?_)
          exact again (more q)
      · refine wpAny_bind (wpAny_holding (knd.eqBool hr hb hx ?_))
        refine wpAny_bind (wpAny_setState_of ho hd T.fits ?_)
        dsimp only
        rw [mem]
        dsimp only
        rw [if_pos (show (true = true) from rfl), sl]
        dsimp only
        rw [eg]
        dsimp only
        by_cases q : ks i = kx
        · rw [decide_eq_true q]
          cases adding with
          | true => exact wpAny_pure (qt _ (fun _ => rfl) ⟨i, hi, q⟩)
          | false =>
            simp only [Bool.false_and, Bool.false_eq_true, if_false]
            refine wpAny_bind (wpAny_isSame_ref_self ?_)
            exact wpAny_pure (qt _ (fun z => by cases z) ⟨i, hi, q⟩)
        · rw [decide_eq_false q]
          simp only [Bool.and_false, Bool.false_eq_true, if_false]
          refine wpAny_bind (wpAny_isSame_ref_self ?_)
          exact again (more q)
    · generalize hp : SetTable.probe.go t _ (knd.hash kx) (10 * SetTable.turns t.mask) (ad t.mask k (start t.mask (knd.hash kx))) = pr
      have e := hp.symm.trans a2
      subst e
      dsimp only
      refine wpAny_pure (qf fun i hi z => ?_)
      obtain ⟨m, hm, al⟩ := T.way i hi
      obtain ⟨b, eb, _⟩ := ke i hi
      rw [eb] at hm al
      dsimp only at hm al
      rw [z] at hm al
      have mN : m < N := Classical.byContradiction fun c => by
        by_cases q : N = m
        · subst q
          exact hN (by simpa using Array.mem_of_getElem? hm)
        · exact hN (al N (by omega))
      by_cases q : m < k
      · exact prev m q i hm z
      · refine a1 m (by omega) mN i hm ?_
        simp [eb, hi, z]
structure SetT (knd : HeapKind prog w K) (h : Heap) (a : Addr) (es : Array (Int × Value)) (ep : Nat) (t : SetTable) (ks : Nat → K) : Prop where
  obj : h.get? a = some { cls := .type "set", data := .set es ep t }
  tab : Tab t es
  keys : Keys knd h es ks
end
end SmSet
set_option Elab.async false
set_option linter.all false
set_option maxRecDepth 100000
set_option maxHeartbeats 400000
namespace SmSet
open PySem
theorem insert_get {α : Type} {l : List α} {p : Nat} {x : α} (hp : p ≤ l.length) (i : Nat) : (l.take p ++ x :: l.drop p)[i]? = if i < p then l[i]? else if i = p then some x else l[i - 1]? := by
  have lt : (l.take p).length = p := by rw [List.length_take]; omega
  by_cases c : i < p
  · rw [if_pos c, List.getElem?_append_left (by omega), List.getElem?_take_of_lt c]
  · rw [if_neg c, List.getElem?_append_right (by omega), lt]
    by_cases d : i = p
    · rw [if_pos d, d, Nat.sub_self]; rfl
    · rw [if_neg d, show i - p = (i - p - 1) + 1 from by omega, List.getElem?_cons_succ, List.getElem?_drop]
      congr 1; omega
theorem Tab.put {t : SetTable} {es : Array (Int × Value)} (T : Tab t es) {h : Int} {x : Value} {N : Nat} (hN : ¬ at' t.mask h N ∈ t.place.toList) (hall : ∀ n, n < N → at' t.mask h n ∈ t.place.toList) (pl : Bool) :
    (((es.size + 1) * 5 < t.mask * 3) → Tab { (t.put (at' t.mask h N)).1 with plain := pl } (SetTable.insertAt es (t.put (at' t.mask h N)).2 (h, x))) ∧ (t.put (at' t.mask h N)).1.dummies = #[] ∧ (t.put (at' t.mask h N)).1.mask = t.mask ∧ (t.put (at' t.mask h N)).1.place.size = es.size + 1 := by
  have e1 : (t.put (at' t.mask h N)).1 = { t with place := SetTable.insertAt t.place (SetTable.below t.place (at' t.mask h N)) (at' t.mask h N) } := by
    unfold SetTable.put
    dsimp only
    rw [T.nd]
    unfold SetTable.has
    simp
  have e2 : (t.put (at' t.mask h N)).2 = SetTable.below t.place (at' t.mask h N) := rfl
  rw [e1, e2]
  generalize hj : at' t.mask h N = j at *
  obtain ⟨b1, b2, b3⟩ := below_spec (j := j) T.so
  generalize hp : SetTable.below t.place j = p at *
  have lp : (SetTable.insertAt t.place p j).toList = t.place.toList.take p ++ j :: t.place.toList.drop p := SetTable.toList_insertAt ..
  have le : (SetTable.insertAt es p (h, x)).toList = es.toList.take p ++ (h, x) :: es.toList.drop p := SetTable.toList_insertAt ..
  have p1 : p ≤ t.place.toList.length := by rw [Array.length_toList]; exact b1
  have p2 : p ≤ es.toList.length := by rw [Array.length_toList, ← T.sz]; exact b1
  have s1 : (SetTable.insertAt t.place p j).size = es.size + 1 := by
    rw [← Array.length_toList, lp, List.length_append, List.length_cons, List.length_take, List.length_drop, Array.length_toList, ← T.sz]; omega
  have s2 : (SetTable.insertAt es p (h, x)).size = es.size + 1 := by
    rw [← Array.length_toList, le, List.length_append, List.length_cons, List.length_take, List.length_drop, Array.length_toList]
    have := T.sz
    omega
  have mem : ∀ j', j' ∈ (SetTable.insertAt t.place p j).toList ↔ j' = j ∨ j' ∈ t.place.toList := fun j' => by
    rw [lp, List.mem_append, List.mem_cons]
    constructor
    · rintro (h | h | h)
      · exact .inr (List.mem_of_mem_take h)
      · exact .inl h
      · exact .inr (List.mem_of_mem_drop h)
    · rintro (h | h)
      · exact .inr (.inl h)
      · rw [← List.take_append_drop p t.place.toList, List.mem_append] at h
        exact h.imp id .inr
  refine ⟨fun light => ⟨T.mask, T.nd, ?_, by rw [s2]; exact s1, fun j' hj' => ?_, by rw [s2]; exact light, fun i hi => ?_⟩, T.nd, rfl, s1⟩
  · show (SetTable.insertAt t.place p j).toList.Pairwise (· < ·)
    rw [lp, List.pairwise_append, List.pairwise_cons]
    refine ⟨T.so.sublist (List.take_sublist _ _), ⟨fun y hy => ?_, T.so.sublist (List.drop_sublist _ _)⟩, fun y hy z hz => ?_⟩
    · obtain ⟨i, hi, e⟩ := List.getElem_of_mem hy
      rw [List.getElem_drop] at e
      have hl : p + i < t.place.size := by rw [List.length_drop, Array.length_toList] at hi; omega
      have q := b3 (p + i) hl (by omega)
      rw [Array.getElem_toList] at e
      rw [e] at q
      have ne : y ≠ j := fun z => hN (by rw [← z]; exact List.mem_of_mem_drop hy)
      omega
    · obtain ⟨i, hi, e⟩ := List.getElem_of_mem hy
      rw [List.getElem_take] at e
      rw [List.length_take, Array.length_toList] at hi
      have hl : i < t.place.size := by omega
      have q := b2 i hl (by omega)
      rw [Array.getElem_toList] at e
      rw [e] at q
      rcases List.mem_cons.mp hz with z1 | z1
      · rw [z1]; exact q
      · obtain ⟨k, hk, ek⟩ := List.getElem_of_mem z1
        rw [List.getElem_drop] at ek
        have hl' : p + k < t.place.size := by rw [List.length_drop, Array.length_toList] at hk; omega
        have q2 := b3 (p + k) hl' (by omega)
        rw [Array.getElem_toList] at ek
        rw [ek] at q2
        omega
  · have hj' : j' ∈ (SetTable.insertAt t.place p j).toList := hj'
    rcases (mem j').mp hj' with z | z
    · rw [z, ← hj]; exact at_le N
    · exact T.small j' z
  · show ∃ n, (SetTable.insertAt t.place p j)[i]? = some (at' t.mask (SetTable.insertAt es p (h, x))[i].1 n) ∧ ∀ n', n' < n → at' t.mask (SetTable.insertAt es p (h, x))[i].1 n' ∈ (SetTable.insertAt t.place p j).toList
    have ge : (SetTable.insertAt es p (h, x))[i]? = some (SetTable.insertAt es p (h, x))[i] := Array.getElem?_eq_getElem hi
    generalize (SetTable.insertAt es p (h, x))[i] = e at ge ⊢
    rw [← Array.getElem?_toList, le, insert_get p2] at ge
    rw [← Array.getElem?_toList, lp, insert_get p1, ← lp]
    have old : ∀ k, es.toList[k]? = some e → ∃ n, t.place.toList[k]? = some (at' t.mask e.1 n) ∧ ∀ n', n' < n → at' t.mask e.1 n' ∈ (SetTable.insertAt t.place p j).toList := fun k hk => by
      rw [Array.getElem?_toList] at hk
      obtain ⟨hk', ek⟩ := Array.getElem?_eq_some_iff.mp hk
      obtain ⟨n, a1, a2⟩ := T.way k hk'
      rw [ek] at a1 a2
      exact ⟨n, by rw [Array.getElem?_toList]; exact a1, fun n' hn => (mem _).mpr (.inr (a2 n' hn))⟩
    by_cases c : i < p
    · rw [if_pos c] at ge ⊢; exact old i ge
    · rw [if_neg c] at ge ⊢
      by_cases d : i = p
      · rw [if_pos d] at ge ⊢
        cases ge
        exact ⟨N, by rw [hj], fun n' hn => (mem _).mpr (.inr (hall n' hn))⟩
      · rw [if_neg d] at ge ⊢; exact old (i - 1) ge
def occ (ow : Array (Option Nat)) (j : Nat) : Prop := (ow.getD j (some 0)).isNone = false
theorem free_spec {m : Nat} {ow : Array (Option Nat)} : ∀ (fuel i u : Nat), (∃ r, r < fuel ∧ ¬ occ ow (runs m r i u).1) →
    ∃ n, SetTable.layClean.free m ow fuel i u = some (ad m n (run m i u)).j ∧ ¬ occ ow (ad m n (run m i u)).j ∧ ∀ n', n' < n → occ ow (ad m n' (run m i u)).j
  | 0, i, u, ⟨r, h, _⟩ => absurd h (Nat.not_lt_zero _)
  | fuel + 1, i, u, ⟨r, h, no⟩ => by
    unfold SetTable.layClean.free
    cases e : (List.range (SetTable.runEnd m i + 1 - i)).find? fun k => (ow.getD (i + k) (some 0)).isNone with
    | some k =>
      dsimp only
      obtain ⟨hk, hlt, before⟩ := List.find?_range_eq_some.mp e
      have hlt : k < SetTable.runEnd m i + 1 - i := List.mem_range.mp hlt
      have inr : ∀ k', k' ≤ k → (ad m k' (run m i u)).j = i + k' := fun k' hk' => by rw [ad_in_run k' (by omega)]
      refine ⟨k, by rw [inr k (Nat.le_refl _)], ?_, fun n' hn => ?_⟩
      · rw [inr k (Nat.le_refl _)]
        unfold occ
        rw [hk]; simp
      · rw [inr n' (by omega)]
        unfold occ
        have := before n' hn
        simpa using this
    | none =>
      dsimp only
      have all : ∀ k, k < SetTable.runEnd m i + 1 - i → occ ow (i + k) := fun k hk => by
        have := List.find?_eq_none.mp e k (List.mem_range.mpr hk)
        unfold occ
        cases q : (ow.getD (i + k) (some 0)).isNone with
        | false => rfl
        | true => exact absurd q this
      have r0 : r ≠ 0 := fun z => by
        subst z
        refine no ?_
        exact all 0 (by have := (runEnd_le (m := m) (i := i)).2.1; omega)
      obtain ⟨r', rfl⟩ := Nat.exists_eq_succ_of_ne_zero r0
      obtain ⟨n, a1, a2, a3⟩ := free_spec fuel ((i * 5 + 1 + u / 32) % (m + 1)) (u / 32) ⟨r', by omega, no⟩
      have next : ∀ n', ad m (SetTable.runEnd m i - i + 1 + n') (run m i u) = ad m n' (run m ((i * 5 + 1 + u / 32) % (m + 1)) (u / 32)) := fun n' => by rw [ad_add, ad_next_run]
      refine ⟨SetTable.runEnd m i - i + 1 + n, ?_, ?_, fun n' hn => ?_⟩
      · rw [next]; exact a1
      · rw [next]; exact a2
      · by_cases c : n' < SetTable.runEnd m i - i + 1
        · rw [ad_in_run n' (by omega)]
          exact all n' (by have := (runEnd_le (m := m) (i := i)).2.1; omega)
        · rw [show n' = SetTable.runEnd m i - i + 1 + (n' - (SetTable.runEnd m i - i + 1)) from by omega, next]
          exact a3 _ (by omega)
structure Lay (m : Nat) (hs : List Int) (ow : Array (Option Nat)) : Prop where
  sz : ow.size = m + 1
  each : ∀ (k : Nat) (h : Int), hs[k]? = some h → ∃ n, ow[at' m h n]? = some (some k) ∧ ∀ n', n' < n → occ ow (at' m h n')
  low : ∀ (j k : Nat), ow[j]? = some (some k) → k < hs.length
  one : ∀ (j j' k : Nat), ow[j]? = some (some k) → ow[j']? = some (some k) → j = j'
theorem occ_iff {ow : Array (Option Nat)} {j : Nat} (h : j < ow.size) : occ ow j ↔ ∃ k, ow[j]? = some (some k) := by
  unfold occ
  rw [show ow.getD j (some 0) = ow[j] from by simp [Array.getD, h], Array.getElem?_eq_getElem h]
  cases ow[j] <;> simp
theorem Lay.left {m : Nat} {hs : List Int} {ow : Array (Option Nat)} (L : Lay m hs ow) (few : hs.length ≤ m) : ∃ j, j ≤ m ∧ ¬ occ ow j := by
  refine Classical.byContradiction fun c => ?_
  have all : ∀ j, j < m + 1 → ∃ k, ow[j]? = some (some k) := fun j hj => (occ_iff (by rw [L.sz]; exact hj)).mp (Classical.byContradiction fun z => c ⟨j, by omega, z⟩)
  have pick : ∀ k, ∃ j, k < hs.length → ow[j]? = some (some k) := fun k => by
    by_cases hk : k < hs.length
    · obtain ⟨n, a, _⟩ := L.each k hs[k] (List.getElem?_eq_getElem hk)
      exact ⟨_, fun _ => a⟩
    · exact ⟨0, fun z => absurd z hk⟩
  have := as_long (m + 1) ((List.range hs.length).map fun k => (pick k).choose) fun j hj => by
    obtain ⟨k, hk⟩ := all j hj
    have kl := L.low j k hk
    exact List.mem_map.mpr ⟨k, List.mem_range.mpr kl, L.one _ _ _ ((pick k).choose_spec kl) hk⟩
  rw [List.length_map, List.length_range] at this
  omega
theorem Lay.step {m : Nat} {hs : List Int} {ow : Array (Option Nat)} (hm : Mask m) (L : Lay m hs ow) (few : hs.length ≤ m) (h : Int) :
    ∃ j, SetTable.layClean.free m ow (SetTable.turns m) (SetTable.bits h % (m + 1)) (SetTable.bits h) = some j ∧ Lay m (hs ++ [h]) (ow.setIfInBounds j (some hs.length)) := by
  obtain ⟨j0, hj0, no⟩ := L.left few
  obtain ⟨r, hr, e⟩ := reach (u := SetTable.bits h) hm (Nat.lt_succ_iff.mp (Nat.mod_lt (SetTable.bits h) (show 0 < m + 1 by omega))) (bits_lt h) hj0
  obtain ⟨n, a1, a2, a3⟩ := free_spec (m := m) (ow := ow) (SetTable.turns m) (SetTable.bits h % (m + 1)) (SetTable.bits h) ⟨r, by unfold SetTable.turns; omega, by rw [e]; exact no⟩
  have ej : (ad m n (run m (SetTable.bits h % (m + 1)) (SetTable.bits h))).j = at' m h n := rfl
  rw [ej] at a1 a2
  have a3 : ∀ n', n' < n → occ ow (at' m h n') := a3
  have jl : at' m h n < ow.size := by rw [L.sz]; exact Nat.lt_succ_iff.mpr (at_le n)
  have get : ∀ j, (ow.setIfInBounds (at' m h n) (some hs.length))[j]? = if at' m h n = j then some (some hs.length) else ow[j]? := fun j => by
    rw [Array.getElem?_setIfInBounds]
    by_cases c : at' m h n = j
    · rw [if_pos c, if_pos c, if_pos jl]
    · rw [if_neg c, if_neg c]
  have keep : ∀ j, occ ow j → j < ow.size → occ (ow.setIfInBounds (at' m h n) (some hs.length)) j := fun j oj hj => by
    rw [occ_iff (by rw [Array.size_setIfInBounds]; exact hj), get]
    by_cases c : at' m h n = j
    · exact ⟨_, by rw [if_pos c]⟩
    · rw [if_neg c]; exact (occ_iff hj).mp oj
  have free : ∀ k, ow[at' m h n]? ≠ some (some k) := fun k z => a2 ((occ_iff jl).mpr ⟨k, z⟩)
  refine ⟨_, a1, by rw [Array.size_setIfInBounds]; exact L.sz, fun k x hx => ?_, fun j k hj => ?_, fun j j' k h1 h2 => ?_⟩
  · by_cases c : k < hs.length
    · rw [List.getElem?_append_left c] at hx
      obtain ⟨n2, b1, b2⟩ := L.each k x hx
      refine ⟨n2, ?_, fun n' hn => keep _ (b2 n' hn) (by rw [L.sz]; exact Nat.lt_succ_iff.mpr (at_le n'))⟩
      rw [get, if_neg fun z => free k (by rw [z]; exact b1)]
      exact b1
    · rw [List.getElem?_append_right (by omega)] at hx
      have : k - hs.length = 0 := by
        have := (List.getElem?_eq_some_iff.mp hx).1
        simp at this; omega
      rw [this] at hx
      cases hx
      have : k = hs.length := by omega
      subst this
      exact ⟨n, by rw [get, if_pos rfl], fun n' hn => keep _ (a3 n' hn) (by rw [L.sz]; exact Nat.lt_succ_iff.mpr (at_le n'))⟩
  · rw [get] at hj
    rw [List.length_append, List.length_singleton]
    split at hj
    · cases hj; omega
    · have := L.low j k hj; omega
  · rw [get] at h1 h2
    split at h1 <;> split at h2
    · rename_i x y; rw [← x, ← y]
    · cases h1; have := L.low _ _ h2; omega
    · cases h2; have := L.low _ _ h1; omega
    · exact L.one _ _ _ h1 h2
theorem lay_fold {m : Nat} (hm : Mask m) : ∀ (l hs : List Int) (ow : Array (Option Nat)), Lay m hs ow → hs.length + l.length ≤ m + 1 →
    ∃ ow', l.foldl (fun (acc : Option (Array (Option Nat) × Nat)) h => do
      let (owner, k) ← acc
      let j ← SetTable.layClean.free m owner (SetTable.turns m) (SetTable.bits h % (m + 1)) (SetTable.bits h)
      pure (owner.setIfInBounds j (some k), k + 1)) (some (ow, hs.length)) = some (ow', hs.length + l.length) ∧ Lay m (hs ++ l) ow'
  | [], hs, ow, L, _ => ⟨ow, rfl, by rw [List.append_nil]; exact L⟩
  | h :: l, hs, ow, L, few => by
    obtain ⟨j, e, L'⟩ := L.step hm (by rw [List.length_cons] at few; omega) h
    have few' : (hs ++ [h]).length + l.length ≤ m + 1 := by rw [List.length_append, List.length_singleton]; rw [List.length_cons] at few; omega
    obtain ⟨ow', e2, L2⟩ := lay_fold hm l (hs ++ [h]) _ L' few'
    refine ⟨ow', ?_, by rw [List.append_assoc] at L2; exact L2⟩
    rw [List.foldl_cons]
    show l.foldl _ ((SetTable.layClean.free m ow (SetTable.turns m) (SetTable.bits h % (m + 1)) (SetTable.bits h)).bind fun j => some (ow.setIfInBounds j (some hs.length), hs.length + 1)) = _
    rw [e]
    rw [List.length_append, List.length_singleton] at e2
    rw [List.length_cons]
    rw [show hs.length + (l.length + 1) = hs.length + 1 + l.length from by omega]
    exact e2
theorem lay_clean {m : Nat} (hm : Mask m) {hashes : Array Int} (few : hashes.size ≤ m + 1) : ∃ ow, SetTable.layClean m hashes = some ow ∧ Lay m hashes.toList ow := by
  have L0 : Lay m [] (Array.replicate (m + 1) none) := ⟨by simp, fun k h e => (by cases e), (fun j k e => by rw [Array.getElem?_replicate] at e; split at e <;> cases e), (fun j j' k e => by rw [Array.getElem?_replicate] at e; split at e <;> cases e)⟩
  obtain ⟨ow, e, L⟩ := lay_fold hm hashes.toList [] _ L0 (by rw [List.length_nil, Array.length_toList]; omega)
  refine ⟨ow, ?_, by simpa using L⟩
  unfold SetTable.layClean
  rw [← Array.foldl_toList]
  have := congrArg (Option.map (·.1)) e
  exact this
theorem perm_of {l l' : List Nat} (h : l.Nodup) (h' : l'.Nodup) (e : ∀ x, x ∈ l ↔ x ∈ l') : l.Perm l' := by
  rw [List.perm_iff_count]
  intro a
  rw [h.count, h'.count]
  by_cases c : a ∈ l
  · rw [if_pos c, if_pos ((e a).mp c)]
  · rw [if_neg c, if_neg fun z => c ((e a).mpr z)]
theorem fm_some {α β : Type} {f : α → Option β} {g : α → β} : ∀ {l : List α}, (∀ x ∈ l, f x = some (g x)) → l.filterMap f = l.map g
  | [], _ => rfl
  | x :: l, h => by
    rw [List.filterMap_cons_some (h x List.mem_cons_self), List.map_cons, fm_some fun y hy => h y (List.mem_cons_of_mem _ hy)]
theorem fm_pair {f : Nat → Option Nat} : ∀ (l : List Nat), (l.filterMap fun j => (f j).map (j, ·)).map (·.1) = l.filter fun j => (f j).isSome
  | [] => rfl
  | x :: l => by
    cases e : f x with
    | none => rw [List.filterMap_cons_none (by rw [e]; rfl), List.filter_cons_of_neg (by rw [e]; simp), fm_pair l]
    | some k => rw [List.filterMap_cons_some (b := (x, k)) (by rw [e]; rfl), List.filter_cons_of_pos (by rw [e]; rfl), List.map_cons, fm_pair l]
theorem relaid_spec {t : SetTable} {es : Array (Int × Value)} {wanted m : Nat} (hw : SetTable.sizeAbove wanted - 1 = m) (hm : Mask m) (light : es.size * 5 < m * 3) :
    ∃ t' order, t.relaid (es.map (·.1)) wanted = some (t', order) ∧ (order.filterMap (es[·]?)).toList.Perm es.toList ∧ Tab t' (order.filterMap (es[·]?)) := by
  obtain ⟨ow, e, L⟩ := lay_clean (hashes := es.map (·.1)) hm (by rw [Array.size_map]; omega)
  have lh : (es.map (·.1)).toList.length = es.size := by rw [Array.length_toList, Array.size_map]
  have hh : ∀ (k : Nat) (x : Int × Value), es[k]? = some x → (es.map (·.1)).toList[k]? = some x.1 := fun k x hx => by rw [Array.getElem?_toList, Array.getElem?_map, hx]; rfl
  let lv := (List.range (m + 1)).filterMap fun j => (ow.getD j none).map (j, ·)
  have e2 : t.relaid (es.map (·.1)) wanted = some ({ mask := m, place := (lv.map (·.1)).toArray, dummies := #[], finger := t.finger, led := t.led, moves := t.movedTo m, plain := t.plain }, (lv.map (·.2)).toArray) := by
    unfold SetTable.relaid SetTable.laid
    rw [hw, e]
    rfl
  have f1 : lv.map (·.1) = (List.range (m + 1)).filter fun j => (ow.getD j none).isSome := fm_pair _
  have f2 : ∀ p ∈ lv, ow[p.1]? = some (some p.2) ∧ p.1 ≤ m := fun p hp => by
    obtain ⟨j, hj, q⟩ := List.mem_filterMap.mp hp
    have hj : j < m + 1 := List.mem_range.mp hj
    have hs : j < ow.size := by rw [L.sz]; exact hj
    rw [show ow.getD j none = ow[j] from by simp [Array.getD, hs]] at q
    cases eo : ow[j] with
    | none => rw [eo] at q; cases q
    | some k => rw [eo] at q; cases q; exact ⟨by rw [Array.getElem?_eq_getElem hs, eo], by show j ≤ m; omega⟩
  have f3 : ∀ j k, ow[j]? = some (some k) → (j, k) ∈ lv := fun j k h => by
    obtain ⟨hs, eo⟩ := Array.getElem?_eq_some_iff.mp h
    refine List.mem_filterMap.mpr ⟨j, List.mem_range.mpr (by rw [L.sz] at hs; exact hs), ?_⟩
    rw [show ow.getD j none = ow[j] from by simp [Array.getD, hs], eo]; rfl
  have so1 : (lv.map (·.1)).Pairwise (· < ·) := by rw [f1]; exact List.pairwise_lt_range.filter _
  have so2 : lv.Pairwise fun a b => a.1 < b.1 := List.pairwise_map.mp so1
  have nd : (lv.map (·.2)).Nodup := by
    refine List.pairwise_map.mpr (so2.imp_of_mem fun {a b} ha hb h z => ?_)
    have := L.one _ _ _ (f2 a ha).1 (by rw [z]; exact (f2 b hb).1)
    omega
  have kl : ∀ p ∈ lv, p.2 < es.size := fun p hp => by have := L.low _ _ (f2 p hp).1; rw [lh] at this; exact this
  have pm : (lv.map (·.2)).Perm (List.range es.size) := perm_of nd List.nodup_range fun k => by
    constructor
    · intro h
      obtain ⟨p, hp, rfl⟩ := List.mem_map.mp h
      exact List.mem_range.mpr (kl p hp)
    · intro h
      have hk : k < es.size := List.mem_range.mp h
      obtain ⟨n, a, _⟩ := L.each k es[k].1 (hh k _ (Array.getElem?_eq_getElem hk))
      exact List.mem_map.mpr ⟨_, f3 _ _ a, rfl⟩
  let g : Nat → Int × Value := fun k => (es[k]?).getD (0, Value.none)
  have gk : ∀ k, k < es.size → es[k]? = some (g k) := fun k hk => by show es[k]? = some ((es[k]?).getD _); rw [Array.getElem?_eq_getElem hk]; rfl
  have e3 : ((lv.map (·.2)).toArray.filterMap (es[·]?)).toList = lv.map fun p => g p.2 := by
    rw [Array.toList_filterMap, List.filterMap_map]
    exact fm_some fun p hp => gk p.2 (kl p hp)
  have e4 : es.toList = (List.range es.size).map g := by
    have := filterMap_getElem?_range es
    rw [fm_some (g := g) fun k hk => gk k (List.mem_range.mp hk)] at this
    exact this.symm
  refine ⟨_, _, e2, ?_, ?_⟩
  · rw [e3, e4, show (fun p : Nat × Nat => g p.2) = g ∘ (·.2) from rfl, ← List.map_map]
    exact pm.map g
  · have sz : ((lv.map (·.2)).toArray.filterMap (es[·]?)).size = lv.length := by rw [← Array.length_toList, e3, List.length_map]
    have ll : lv.length = es.size := by have := pm.length_eq; rw [List.length_map, List.length_range] at this; exact this
    refine ⟨hm, rfl, by simpa using so1, by rw [sz]; simp, fun j hj => ?_, by rw [sz, ll]; exact light, fun i hi => ?_⟩
    · have hj : j ∈ lv.map (·.1) := by simpa using hj
      obtain ⟨p, hp, rfl⟩ := List.mem_map.mp hj
      exact (f2 p hp).2
    · have ge : ((lv.map (·.2)).toArray.filterMap (es[·]?))[i]? = some ((lv.map (·.2)).toArray.filterMap (es[·]?))[i] := Array.getElem?_eq_getElem hi
      generalize ((lv.map (·.2)).toArray.filterMap (es[·]?))[i] = x at ge ⊢
      rw [← Array.getElem?_toList, e3, List.getElem?_map] at ge
      cases ep : lv[i]? with
      | none => rw [ep] at ge; cases ge
      | some p =>
        rw [ep] at ge
        have ge : g p.2 = x := Option.some.inj ge
        have hp := List.mem_of_getElem? ep
        have hx := gk p.2 (kl p hp)
        rw [ge] at hx
        obtain ⟨n, a1, a2⟩ := L.each p.2 x.1 (hh p.2 x hx)
        have ej := L.one _ _ _ a1 (f2 p hp).1
        refine ⟨n, ?_, fun n' hn => ?_⟩
        · show ((lv.map (·.1)).toArray)[i]? = some (at' m x.1 n)
          rw [List.getElem?_toArray, List.getElem?_map, ep, ej]; rfl
        · show at' m x.1 n' ∈ ((lv.map (·.1)).toArray).toList
          obtain ⟨k, hk⟩ := (occ_iff (by rw [L.sz]; exact Nat.lt_succ_iff.mpr (at_le n'))).mp (a2 n' hn)
          simpa using ⟨k, f3 _ _ hk⟩
end SmSet
set_option Elab.async false
set_option linter.all false
set_option maxRecDepth 100000
set_option maxHeartbeats 400000
namespace SmSet
open PySem
section
variable {prog : Program} {w : World} {K : Type} [DecidableEq K] {knd : HeapKind prog w K} {A : Around} {E : Value → Shared → Prop} {s : Shared} {a : Addr}
def Hashy (knd : HeapKind prog w K) : Prop := ∀ (A : Around) (s : Shared) (k : K) (b : Addr), knd.is s.heap k b → ∀ (E : Value → Shared → Prop) (Q : Bool → Shared → Prop), (∀ v, Q v s) → wpAny (model prog w) A (hashByValue 8 (.ref b)) Q E s
def SetObj (es : Array (Int × Value)) (ep : Nat) (t : SetTable) : Obj := { cls := .type "set", data := .set es ep t }
theorem store {es es' : Array (Int × Value)} {ep : Nat} {t t' : SetTable} {Q : Unit → Shared → Prop} (ho : s.heap.get? a = some (SetObj es ep t)) (hz : es'.size ≤ sizeLine)
    (h : ∀ h', Heap.SameBut a s.heap h' → h'.get? a = some (SetObj es' (ep + 1) t') → Q () { s with heap := h' }) : wpAny (model prog w) A (storeSet a es' t') Q E s := by
  refine wpAny_storeSet_of ho rfl (h _ (Heap.SameBut.update s.heap a (Obj.putSet es' t')) ?_) hz
  have := Heap.get?_update_self (Obj.putSet es' t') ho (by rw [putSet_of es' t' rfl]; rfl)
  rw [putSet_of es' t' rfl] at this; exact this
theorem grown_mask {n m : Nat} (hm : Mask m) (lt : (n - 1) * 5 < m * 3) (n1 : 1 ≤ n) (full : n * 5 ≥ m * 3) (few : n ≤ 4000) : Mask (SetTable.sizeAbove (SetTable.grown n) - 1) ∧ n * 5 < (SetTable.sizeAbove (SetTable.grown n) - 1) * 3 ∧ SetTable.sizeAbove (SetTable.grown n) ≤ 8192 := by
  rcases hm with rfl | rfl | rfl | rfl | rfl | rfl
  · have : n = 5 := by omega
    subst this
    exact ⟨.inr (.inl (by decide +kernel)), by decide +kernel, by decide +kernel⟩
  · have : n = 19 := by omega
    subst this
    exact ⟨.inr (.inr (.inl (by decide +kernel))), by decide +kernel, by decide +kernel⟩
  · have : n = 77 := by omega
    subst this
    exact ⟨.inr (.inr (.inr (.inl (by decide +kernel)))), by decide +kernel, by decide +kernel⟩
  · have : n = 307 := by omega
    subst this
    exact ⟨.inr (.inr (.inr (.inr (.inl (by decide +kernel))))), by decide +kernel, by decide +kernel⟩
  · have : n = 1229 := by omega
    subst this
    exact ⟨.inr (.inr (.inr (.inr (.inr (by decide +kernel))))), by decide +kernel, by decide +kernel⟩
  · omega
theorem add {es : Array (Int × Value)} {ep : Nat} {t : SetTable} {ks : Nat → K} {kx : K} {c : Addr} {Q : Bool → Shared → Prop} (hr : knd.room A) (S : SetT knd s.heap a es ep t ks) (hx : knd.is s.heap kx c) (cl : Calm knd A s) (hb : Hashy knd) (few : es.size < 4000)
    (qt : (∃ i, i < es.size ∧ ks i = kx) → Q false s)
    (qf : ∀ (h' : Heap) (es' : Array (Int × Value)) (ep' : Nat) (t' : SetTable), (∀ i, i < es.size → ks i ≠ kx) → Heap.SameBut a s.heap h' → h'.get? a = some (SetObj es' ep' t') → Tab t' es' → es'.toList.Perm (es.toList ++ [(knd.hash kx, .ref c)]) → Q true { s with heap := h' }) :
    wpAny (model prog w) A (setAddHashed a (.ref c) (knd.hash kx)) Q E s := by
  obtain ⟨N, n1, n2, n3⟩ := S.tab.first (knd.hash kx)
  have line : 10000 ≤ sizeLine := by rw [sizeLine_eq]; decide
  unfold setAddHashed setAddHashedIn
  refine wpAny_holding (wpAny_bind (wpAny_setState_of S.obj rfl S.tab.fits ?_))
  dsimp only
  rw [show byScan (.ref c) es = false from rfl]
  simp only [Bool.false_eq_true, if_false]
  refine wpAny_bind ?_
  unfold setSearch
  have lim : 10 * (t.mask + 13) < 100000 := by
    rcases S.tab.mask with h | h | h | h | h | h <;> rw [h] <;> decide
  refine search hr S.obj rfl S.tab S.keys hx cl (fun r h f => ?_) n2 n3 n1 (fun nf => ?_) 100000 0 none (by omega) (Nat.zero_le _) rfl (fun n' h => absurd h (Nat.not_lt_zero _))
  · exact wpAny_pure (qt f)
  · dsimp only
    refine wpAny_bind (wpAny_setState_of S.obj rfl S.tab.fits ?_)
    dsimp only
    have m7 : 7 ≤ t.mask := by rcases S.tab.mask with h | h | h | h | h | h <;> omega
    have lt := S.tab.light
    have e200 : SetTable.tooFull = fun t => decide (t.fill * 5 ≥ t.mask * 3) := rfl
    have tail : ∀ tt, (∃ pl, tt = { (t.put (at' t.mask (knd.hash kx) N)).1 with plain := pl }) → wpAny (model prog w) A (do
        storeSet a (SetTable.insertAt es (t.put (at' t.mask (knd.hash kx) N)).2 (knd.hash kx, Value.ref c)) tt
        if (!false && tt.tooFull) = true then do
          setRelay a (SetTable.grown (es.size + 1))
          pure true
        else pure true) Q E s := by
      rintro tt ⟨pl, rfl⟩
      obtain ⟨pt, pd, pm, ps⟩ := S.tab.put (x := Value.ref c) n2 n3 pl
      have pp := SetTable.insertAt_perm es (t.put (at' t.mask (knd.hash kx) N)).2 (knd.hash kx, Value.ref c)
      rw [Array.toList_push] at pp
      have sz : (SetTable.insertAt es (t.put (at' t.mask (knd.hash kx) N)).2 (knd.hash kx, Value.ref c)).size = es.size + 1 := by
        have := pp.length_eq
        rw [Array.length_toList, List.length_append, Array.length_toList, List.length_singleton] at this; exact this
      generalize (t.put (at' t.mask (knd.hash kx) N)).1 = T1 at pt pd pm ps ⊢
      generalize SetTable.insertAt es (t.put (at' t.mask (knd.hash kx) N)).2 (knd.hash kx, Value.ref c) = es1 at pt pp sz ⊢
      have fit : ({ T1 with plain := pl } : SetTable).fits es1.size = true := by
        unfold SetTable.fits SetTable.fill
        dsimp only
        rw [ps, pd, sz, pm]
        simp
        omega
      refine wpAny_bind (store S.obj (by omega) fun h' sb go => ?_)
      have full : ({ T1 with plain := pl } : SetTable).tooFull = decide ((es.size + 1) * 5 ≥ t.mask * 3) := by
        unfold SetTable.tooFull SetTable.fill
        dsimp only
        rw [ps, pd, pm]; rfl
      rw [full]
      by_cases c : (es.size + 1) * 5 ≥ t.mask * 3
      · rw [decide_eq_true c]
        simp only [Bool.not_false, Bool.and_self, if_true]
        obtain ⟨gm, gl, gz⟩ := grown_mask S.tab.mask (by rw [Nat.add_sub_cancel]; exact lt) (by omega) c (by omega)
        obtain ⟨t2, order, er, pr, T2⟩ := relaid_spec (t := { T1 with plain := pl }) (es := es1) rfl gm (by rw [sz]; exact gl)
        refine wpAny_bind ?_
        unfold setRelay
        refine wpAny_bind (wpAny_setState_of (s := { s with heap := h' }) go rfl fit ?_)
        dsimp only
        rw [if_neg (by omega)]
        refine wpAny_bind ?_
        rw [er]
        show wpAny (model prog w) A (if ((order.filterMap (es1[·]?)).size != es1.size) = true then _ else _) _ _ _
        have s2 : (order.filterMap (es1[·]?)).size = es1.size := by have := pr.length_eq; rw [Array.length_toList, Array.length_toList] at this; exact this
        rw [if_neg (by rw [s2]; simp)]
        refine wpAny_pure ?_
        dsimp only
        refine store (s := { s with heap := h' }) go (by rw [s2]; omega) fun h2 sb2 go2 => ?_
        exact wpAny_pure (qf h2 _ _ _ nf (sb.trans sb2) go2 T2 (pr.trans pp))
      · rw [decide_eq_false c]
        simp only [Bool.not_false, Bool.and_false, Bool.false_eq_true, if_false]
        exact wpAny_pure (qf h' _ _ _ nf sb go (pt (by omega)) pp)
    split
    · refine wpAny_bind (hb _ _ _ _ hx _ _ fun v => tail _ ?_)
      cases v with
      | true => exact ⟨(t.put (at' t.mask (knd.hash kx) N)).1.plain, rfl⟩
      | false => exact ⟨false, rfl⟩
    · refine wpAny_bind (wpAny_pure (tail _ ⟨(t.put (at' t.mask (knd.hash kx) N)).1.plain, rfl⟩))
end
end SmSet
set_option Elab.async false
set_option linter.all false
set_option maxRecDepth 100000
set_option maxHeartbeats 400000
namespace Sm
open PySem L2 SmSort
abbrev Ds := List (V × Option (Int × Int))
def givB (ms : List M4) (d : Option (Int × Int)) : Bool := match d with
  | none => false
  | some (k, g) => decide (0 ≤ k) && (decide (k < ms.length) && (match ms[k.toNat]? with | some m => decide (g = m.lo) || decide (g = m.hi) | none => false))
def ttr (ms : List M4) : Fn → Int → List (Option (Int × Int)) → Option Fn
  | f, _, [] => some f
  | _, _, none :: _ => none
  | f, bh, some (k, g) :: r => match ms[k.toNat]? with
    | none => none
    | some m => if givB ms (some (k, g)) = true ∧ bh < k ∧ below (f g.toNat) m.t = true then ttr ms (fstep f ⟨g.toNat, (if g = m.lo then m.hi else m.lo).toNat, m.t⟩) k r else none
def tt (ms : List M4) (s : Nat) (a : Int) : Option Ds → Option Fn
  | none => none
  | some ps => ttr ms (lone s a) (-1) (ps.map (·.2))
end Sm
namespace Sm
open PySem L2 SmSort
end Sm
namespace Sm
open PySem L2 SmSort
end Sm
namespace Sm
open PySem L2 SmSort
end Sm
namespace Sm
open PySem L2 SmSort
section
variable {K : PySem.W.Frag} {H : Hp} {σ : St} {lt p : Addr} {n g : Nat} {f : Fn} {t : Int} {Q : VK}
end
end Sm
namespace Sm
open PySem L2 SmSort
end Sm
namespace Sm
open PySem L2 SmSort
section
variable {K : PySem.W.Frag} {H : Hp} {a b : Addr} {xs ys : List V} {lo hi : Option Int} {Q : VK}
end
end Sm
namespace Sm
open PySem L2 SmSort
end Sm
namespace Sm
open PySem L2 SmSort
section
variable {K : PySem.W.Frag} {D : Ends} {σ : St} {HI H : Hp} {l la lb lf : Addr} {x : V} {ss A C : List (Addr × Int × Int)} {n : Nat} {o : Option (Int × Int)}
end
section
variable {K : PySem.W.Frag} {D : Ends} {HI H0 : Hp} {l la lb lf lm : Addr} {ms : List V} {ss A C : List (Addr × Int × Int)} {n : Nat} {s0 s1 s2 s3 s4 s5 s6 s8 : Option V}
end
end Sm
namespace Sm
open PySem L2 SmSort
end Sm
namespace Sm
open PySem L2 SmSort
section
variable {K : PySem.W.Frag} {σ : St} {H : Hp}
end
end Sm
namespace Sm
open PySem L2 SmSort
section
variable {K : PySem.W.Frag} {σ : St} {H : Hp}
end
end Sm
set_option Elab.async false
set_option linter.all false
set_option maxRecDepth 100000
set_option maxHeartbeats 400000
namespace L2
open PySem PySem.Spec PyProof.Rows
def oddV (K : PySem.W.Frag) (H : Hp) : V → Prop
  | .non => True
  | .bl _ => True
  | .str _ => True
  | .int _ => True
  | .ref a => (∃ xs, H a = some (.lst xs)) ∨ ∃ xs, H a = some (.tup xs)
  | _ => False
def rNeOdd (K : PySem.W.Frag) : R2 := fun x y H Q => (∃ i j, x = .int i ∧ y = .int j ∧ Q (.bl (!decide (i = j))) H) ∨ ∃ i, x = .int i ∧ oddV K H y ∧ ∀ b, Q (.bl b) H
theorem op_neOdd' {X : Cx} {K : PySem.W.Frag} (hK : X.K = K) (hu : X.A.units + 64 < cLine) : OpR X (compareOp .NotEq) (rNeOdd K) := by
  subst hK
  intro pins s σ H x y v u Q I rx ry h
  rcases h with ⟨i, j, rfl, rfl, q⟩ | ⟨i, rfl, o, q⟩
  · obtain ⟨t, rfl⟩ := rx
    obtain ⟨t', rfl⟩ := ry
    exact SeqAt.RcNeAt.int_int i t j t' _ _ _ _ ⟨.bl _, H, I, by show Value.bool _ = Value.bool _; congr 1, q⟩
  · obtain ⟨t, rfl⟩ := rx
    cases y with
    | non => cases ry; exact SeqAt.RcNeAt.int_none i t _ _ _ _ ⟨.bl _, H, I, rfl, q _⟩
    | bl b => cases ry; exact SeqAt.RcNeAt.int_bool i t b _ _ _ _ ⟨.bl _, H, I, rfl, q _⟩
    | int j => obtain ⟨t', rfl⟩ := ry; exact SeqAt.RcNeAt.int_int i t j t' _ _ _ _ ⟨.bl _, H, I, rfl, q _⟩
    | str z => obtain ⟨t', rfl⟩ := ry; exact SeqAt.RcNeAt.int_str i t z t' _ _ _ _ ⟨.bl _, H, I, rfl, q _⟩
    | ref a =>
      cases ry
      rcases o with ⟨xs, h⟩ | ⟨xs, h⟩
      · obtain ⟨its, r, p, _⟩ := I.list (SqL.of h)
        exact SeqAt.RcNeAt.int_list i t p.isList (by omega) _ _ _ _ ⟨.bl _, H, I, rfl, q _⟩
      · obtain ⟨its, r, p, _⟩ := I.tuple (SqT.of h)
        exact SeqAt.RcNeAt.int_tuple i t p (by omega) _ _ _ _ ⟨.bl _, H, I, rfl, q _⟩
    | _ => exact o.elim
end L2
namespace Sm
open PySem L2 SmSort
theorem oddV_same {K : PySem.W.Frag} {H H' : Hp} {x : V} (h : oddV K H x) (s : Same H H') : oddV K H' x := by
  cases x with
  | ref a =>
    rcases h with ⟨xs, h⟩ | ⟨xs, h⟩
    · exact .inl ⟨xs, s _ _ h⟩
    · exact .inr ⟨xs, s _ _ h⟩
  | non => trivial
  | bl b => trivial
  | int i => trivial
  | str z => trivial
  | _ => exact h.elim
inductive BackR (ms : List M4) (day : Int) (E : Fn) (k : Nat) : Nat → List (Int × Int) → Prop where
  | nil : BackR ms day E k k []
  | cons {o g n : Nat} {t turn : Int} {rs : List (Int × Int)} : o ≠ k → E o = some t → Link ms n g o (t - turn * day) → BackR ms day E k g rs → BackR ms day E k o (((n : Int), turn) :: rs)
theorem turn_one {day t a b x y : Int} (d1 : 1 ≤ day) (hx : x = t - a * day) (hy : y = t - b * day) (x1 : 1 ≤ x) (x2 : x ≤ day) (y1 : 1 ≤ y) (y2 : y ≤ day) : a = b := by
  have key : ∀ a b : Int, a < b → a * day + day ≤ b * day := fun a b h => by
    have : (a + 1) * day ≤ b * day := Int.mul_le_mul_of_nonneg_right (by omega) (by omega)
    rw [Int.add_mul, Int.one_mul] at this; exact this
  rcases Int.lt_trichotomy a b with h | h | h
  · have := key a b h; omega
  · exact h
  · have := key b a h; omega
theorem link_one {W : Nat} {ms : List M4} (gd : Good W ms) {n n' g g' o : Nat} {T : Int} (h : Link ms n g o T) (h' : Link ms n' g' o T) : n = n' ∧ g = g' := by
  obtain ⟨m, hm, t1, h⟩ := h
  obtain ⟨m', hm', t2, h'⟩ := h'
  have b := gd.each m (List.mem_of_getElem? hm)
  have b' := gd.each m' (List.mem_of_getElem? hm')
  have nn : n = n' := by
    obtain ⟨l1, e1⟩ := List.getElem?_eq_some_iff.mp hm
    obtain ⟨l2, e2⟩ := List.getElem?_eq_some_iff.mp hm'
    rcases Nat.lt_trichotomy n n' with c | c | c
    · have := List.pairwise_iff_getElem.mp gd.order n n' l1 l2 c
      rw [e1, e2] at this
      rcases this with z | ⟨_, _, a1, a2, a3, a4⟩
      · omega
      · rcases h with ⟨_, h⟩ | ⟨h, _⟩ <;> rcases h' with ⟨_, h'⟩ | ⟨h', _⟩ <;> omega
    · exact c
    · have := List.pairwise_iff_getElem.mp gd.order n' n l2 l1 c
      rw [e1, e2] at this
      rcases this with z | ⟨_, _, a1, a2, a3, a4⟩
      · omega
      · rcases h with ⟨_, h⟩ | ⟨h, _⟩ <;> rcases h' with ⟨_, h'⟩ | ⟨h', _⟩ <;> omega
  subst nn
  rw [hm] at hm'; cases hm'
  refine ⟨rfl, ?_⟩
  rcases h with ⟨h1, h2⟩ | ⟨h1, h2⟩ <;> rcases h' with ⟨h3, h4⟩ | ⟨h3, h4⟩ <;> omega
theorem BackR.uniq {W : Nat} {ms : List M4} (gd : Good W ms) {day : Int} (d1 : 1 ≤ day) (hd : ∀ m ∈ ms, m.t ≤ day) {E : Fn} {k o : Nat} {rs : List (Int × Int)} (h : BackR ms day E k o rs) : ∀ {rs'}, BackR ms day E k o rs' → rs = rs' := by
  induction h with
  | nil =>
    intro rs' h'
    cases h' with
    | nil => rfl
    | cons ne => exact absurd rfl ne
  | @cons o g n t turn rs ne eo l _ ih =>
    intro rs' h'
    cases h' with
    | nil => exact absurd rfl ne
    | @cons _ g' n' t' turn' rs2 ne' eo' l' h2 =>
      rw [eo] at eo'; cases eo'
      obtain ⟨m, hm, e1, _⟩ := id l
      obtain ⟨m', hm', e2, _⟩ := id l'
      have b := gd.each m (List.mem_of_getElem? hm)
      have b' := gd.each m' (List.mem_of_getElem? hm')
      have := turn_one d1 e1 e2 b.2.2.2.1 (hd m (List.mem_of_getElem? hm)) b'.2.2.2.1 (hd m' (List.mem_of_getElem? hm'))
      subst this
      obtain ⟨rfl, rfl⟩ := link_one gd l l'
      rw [ih h2]
def badDay (ms : List M4) (x : V) : Prop := inB 1 1000000 x = false ∨ ∃ d m, x = .int d ∧ 1 ≤ d ∧ d ≤ 1000000 ∧ m ∈ ms ∧ d < m.t
def BadAt (K : PySem.W.Frag) (H : Hp) (b : Addr) (x : V) (rooms : List Int) (tr tm : Addr) (ps : List (Addr × M4)) : Prop := BookAt H b rooms tr tm ps ∧ Good rooms.length (ps.map (·.2)) ∧ (∃ ty, tyS H x = some ty) ∧ oddV K H x ∧ badDay (ps.map (·.2)) x
theorem BadAt.same {K : PySem.W.Frag} {H H' : Hp} {b : Addr} {x : V} {rooms : List Int} {tr tm : Addr} {ps : List (Addr × M4)} (h : BadAt K H b x rooms tr tm ps) (s : Same H H') : BadAt K H' b x rooms tr tm ps := by
  obtain ⟨h1, h2, ⟨ty, h3⟩, h4, h5⟩ := h
  exact ⟨h1.same s, h2, ⟨ty, tyS_same s h3⟩, oddV_same h4 s, h5⟩
def spNeedDX (K : PySem.W.Frag) (C : Addr) : Sp := fun vs H Q E => spNeed vs H Q E ∨ ∃ b x rooms tr tm ps, vs = [.ref b, x] ∧ BadAt K H b x rooms tr tm ps ∧ ∀ H', Same H H' → E (.ref C) none H'
def spAgTX (K : PySem.W.Frag) (C : Addr) : Sp := fun vs H Q E => spAgT vs H Q E ∨ ∃ b x u v rooms tr tm ps, vs = [.ref b, x, u, v] ∧ BadAt K H b x rooms tr tm ps ∧ ∀ H', Same H H' → E (.ref C) none H'
def spAgCE : Sp := fun vs H Q _ => ∃ b, ∃ day : Int, ∃ k w : Nat, ∃ x rooms tr tm ps, vs = [.ref b, .int day, .int k, .int x, .int w] ∧ BookAt H b rooms tr tm ps ∧ rooms.length ≤ 1000 ∧ Good rooms.length (ps.map (·.2)) ∧ w < rooms.length ∧ 1 ≤ day ∧ day ≤ 1000000 ∧ (∀ m ∈ ps.map (·.2), m.t ≤ day) ∧ 0 ≤ x ∧ x ≤ 2000000000 ∧
  (agF (ps.map (·.2)) day (x / day) (lone k x) rooms.length w = none → ∀ H', Same H H' → Q .non H') ∧
  ∀ e l (cs : List (Addr × Int × Int)) H', agF (ps.map (·.2)) day (x / day) (lone k x) rooms.length w = some e → H l = none → Same H H' → H' l = some (.lst (cs.map fun c => V.ref c.1)) → (∀ c ∈ cs, H' c.1 = some (.tup [.int c.2.1, .int c.2.2])) → BackR (ps.map (·.2)) day (agF (ps.map (·.2)) day (x / day) (lone k x) rooms.length) k w (cs.map (·.2)).reverse → Q (.ref l) H'
def spAgCX (K : PySem.W.Frag) (C : Addr) : Sp := fun vs H Q E => spAgCE vs H Q E ∨ ∃ b x u v z rooms tr tm ps, vs = [.ref b, x, u, v, z] ∧ BadAt K H b x rooms tr tm ps ∧ ∀ H', Same H H' → E (.ref C) none H'
def spWaitsX (K : PySem.W.Frag) (C : Addr) : Sp := fun vs H Q E => spWaits vs H Q E ∨ ∃ b x, ∃ k w : Nat, ∃ rooms tr tm ps, vs = [.ref b, x, .int (k : Int), .int (w : Int)] ∧ BadAt K H b x rooms tr tm ps ∧ ∀ H', Same H H' → E (.ref C) none H'
def Rows65 (H : Hp) (v : V) (rs : List (Int × Int)) : Prop := ∃ l, ∃ cs : List (Addr × Int × Int), v = .ref l ∧ H l = some (.lst (cs.map fun c => V.ref c.1)) ∧ (∀ c ∈ cs, H c.1 = some (.tup [.int c.2.1, .int c.2.2])) ∧ cs.map (·.2) = rs
def Res65 (H : Hp) (ms : List M4) (day : Int) (n : Nat) (x : Int) (way : Int) (v : V) : Prop :=
  (way = 0 ∧ ∃ l, v = .ref l ∧ H l = some (.lst ((rep n (agF ms day (x / day) (lone 0 x) n)).map oV))) ∨
  (way = 1 ∧ ((agF ms day (x / day) (lone 0 x) n (n - 1) = none ∧ v = .non) ∨ (agF ms day (x / day) (lone 0 x) n (n - 1) ≠ none ∧ ∃ rs, Rows65 H v rs ∧ BackR ms day (agF ms day (x / day) (lone 0 x) n) 0 (n - 1) rs.reverse))) ∨
  (way = 2 ∧ ((tOf ms day n 0 (n - 1) 0 = none ∧ v = .non) ∨ (tOf ms day n 0 (n - 1) 0 ≠ none ∧ Rows65 H v (toldF (tOf ms day n 0 (n - 1)) (anch ms day 0)))))
theorem Rows65.same {H H' : Hp} {v : V} {rs : List (Int × Int)} (h : Rows65 H v rs) (s : Same H H') : Rows65 H' v rs := by
  obtain ⟨l, cs, h1, h2, h3, h4⟩ := h
  exact ⟨l, cs, h1, s _ _ h2, fun c hc => s _ _ (h3 c hc), h4⟩
theorem Res65.same {H H' : Hp} {ms : List M4} {day : Int} {n : Nat} {x way : Int} {v : V} (h : Res65 H ms day n x way v) (s : Same H H') : Res65 H' ms day n x way v := by
  rcases h with ⟨e, l, h1, h2⟩ | ⟨e, h | ⟨h1, rs, h2, h3⟩⟩ | ⟨e, h | ⟨h1, h2⟩⟩
  · exact .inl ⟨e, l, h1, s _ _ h2⟩
  · exact .inr (.inl ⟨e, .inl h⟩)
  · exact .inr (.inl ⟨e, .inr ⟨h1, rs, h2.same s, h3⟩⟩)
  · exact .inr (.inr ⟨e, .inl h⟩)
  · exact .inr (.inr ⟨e, .inr ⟨h1, h2.same s⟩⟩)
theorem eqv_non {K : PySem.W.Frag} {H : Hp} {n : Nat} : Eqv K H (n + 1) V.non V.non true := .inr (.inl ⟨rfl, rfl, rfl⟩)
theorem oV_self (o : Option Int) : flatV (oV o) = true ∧ eqV (oV o) (oV o) = true := by
  cases o with
  | none => exact ⟨rfl, rfl⟩
  | some y => exact ⟨rfl, by show decide (y = y) = true; simp⟩
theorem eqv_rows {K : PySem.W.Frag} {H : Hp} {v v' : V} {rs : List (Int × Int)} (h : Rows65 H v rs) (h' : Rows65 H v' rs) : Eqv K H 2 v v' true := by
  obtain ⟨l, cs, rfl, h1, h2, e1⟩ := h
  obtain ⟨l', cs', rfl, h1', h2', e2⟩ := h'
  have el : cs.length = cs'.length := by rw [← List.length_map (f := (·.2)), e1, ← e2, List.length_map]
  refine .inr (.inr ⟨l, l', _, _, fun _ => true, rfl, rfl, .inl ⟨SqL.of h1, SqL.of h1'⟩, fun _ => rfl, ?_, fun i x y hx hy => ?_⟩)
  · rw [List.length_map, List.length_map, decide_eq_true el]; simp
  · obtain ⟨c, hc, rfl⟩ := map_get hx
    obtain ⟨c', hc', rfl⟩ := map_get hy
    have ec : c.2 = c'.2 := by
      have a1 : (cs.map (·.2))[i]? = some c.2 := by rw [List.getElem?_map, hc]; rfl
      have a2 : (cs'.map (·.2))[i]? = some c'.2 := by rw [List.getElem?_map, hc']; rfl
      rw [e1, ← e2, a2] at a1
      exact (Option.some.inj a1).symm
    refine .inr (.inr ⟨c.1, c'.1, _, _, fun _ => true, rfl, rfl, .inr ⟨SqT.of (h2 c (List.mem_of_getElem? hc)), SqT.of (h2' c' (List.mem_of_getElem? hc'))⟩, fun _ => rfl, rfl, fun j x y hx hy => ?_⟩)
    match j, hx, hy with
    | 0, hx, hy => cases hx; cases hy; exact .inr ⟨rfl, rfl, by rw [eqV_int, ec, decide_eq_true rfl]⟩
    | 1, hx, hy => cases hx; cases hy; exact .inr ⟨rfl, rfl, by rw [eqV_int, ec, decide_eq_true rfl]⟩
    | j + 2, hx, hy => cases hx
theorem eqv_res {K : PySem.W.Frag} {H : Hp} {W : Nat} {ms : List M4} (gd : Good W ms) {day : Int} (d1 : 1 ≤ day) (hd : ∀ m ∈ ms, m.t ≤ day) {n : Nat} {x way : Int} {v v' : V} (h : Res65 H ms day n x way v) (h' : Res65 H ms day n x way v') : Eqv K H 2 v v' true := by
  rcases h with ⟨e, l, rfl, h2⟩ | ⟨e, h⟩ | ⟨e, h⟩
  · rcases h' with ⟨_, l', rfl, h2'⟩ | ⟨e', _⟩ | ⟨e', _⟩
    · refine .inr (.inr ⟨l, l', _, _, fun _ => true, rfl, rfl, .inl ⟨SqL.of h2, SqL.of h2'⟩, fun _ => rfl, by simp, fun i x y hx hy => ?_⟩)
      rw [hx] at hy; cases hy
      obtain ⟨o, _, rfl⟩ := map_get hx
      exact .inr (.inl ⟨(oV_self o).1, (oV_self o).1, (oV_self o).2.symm⟩)
    · omega
    · omega
  · rcases h' with ⟨e', _⟩ | ⟨_, h'⟩ | ⟨e', _⟩
    · omega
    · rcases h with ⟨a, rfl⟩ | ⟨a, rs, r, b⟩ <;> rcases h' with ⟨a', rfl⟩ | ⟨a', rs', r', b'⟩
      · exact eqv_non
      · exact absurd a a'
      · exact absurd a' a
      · have := b.uniq gd d1 hd b'
        have : rs = rs' := by rw [← List.reverse_reverse rs, this, List.reverse_reverse]
        subst this
        exact eqv_rows r r'
    · omega
  · rcases h' with ⟨e', _⟩ | ⟨e', _⟩ | ⟨_, h'⟩
    · omega
    · omega
    · rcases h with ⟨a, rfl⟩ | ⟨a, r⟩ <;> rcases h' with ⟨a', rfl⟩ | ⟨a', r'⟩
      · exact eqv_non
      · exact absurd a a'
      · exact absurd a' a
      · exact eqv_rows r r'
def spAsked65 (K : PySem.W.Frag) (C : Addr) : Sp := fun vs H Q E => (∃ b, ∃ day way x : Int, ∃ rooms tr tm ps, vs = [.ref b, .int day, .int way, .int x] ∧ (way = 0 ∨ way = 1 ∨ way = 2) ∧ BookAt H b rooms tr tm ps ∧ 1 ≤ rooms.length ∧ rooms.length ≤ 12 ∧ Good rooms.length (ps.map (·.2)) ∧ 1 ≤ day ∧ day ≤ 1000000 ∧ (∀ m ∈ ps.map (·.2), m.t ≤ day) ∧ 0 ≤ x ∧ x ≤ 2000000000 ∧ ∀ v H', Same H H' → Res65 H' (ps.map (·.2)) day rooms.length x way v → Q v H') ∨
  ∃ b y, ∃ way x : Int, ∃ rooms tr tm ps, vs = [.ref b, y, .int way, .int x] ∧ (way = 0 ∨ way = 1 ∨ way = 2) ∧ BadAt K H b y rooms tr tm ps ∧ 1 ≤ rooms.length ∧ ∀ H', Same H H' → E (.ref C) none H'
def spSaid65 (K : PySem.W.Frag) : Sp := fun vs H Q _ => ∃ b y, ∃ way x : Int, ∃ rooms tr tm ps, vs = [.ref b, y, .int way, .int x] ∧ (way = 0 ∨ way = 1 ∨ way = 2) ∧ BadAt K H b y rooms tr tm ps ∧ 1 ≤ rooms.length ∧ ∀ l H', Same H H' → H' l = some (.lst [.bl true, .bl true, .bl false, .bl false]) → Q (.ref l) H'
def spNone65 (K : PySem.W.Frag) : Sp := fun vs H Q _ => ∃ p b rooms tr tm ps, vs = [.ref p, .ref b] ∧ BookAt H b rooms tr tm ps ∧ Good rooms.length (ps.map (·.2)) ∧ (∀ m ∈ ps.map (·.2), m.t ≤ 1000000) ∧ Purse H p ∧ ∀ y H', Go p H H' → BadAt K H' b y rooms tr tm ps → Q y H'
end Sm
namespace Sm
open PySem L2
theorem line9 : 1002 ≤ sizeLine := by rw [sizeLine_eq]; decide
end Sm

set_option Elab.async false
set_option linter.all false
set_option maxRecDepth 100000
set_option maxHeartbeats 4000000
namespace Sm
open PySem L2
def top (i : Nat) : Stmt := PySem.Challenge.pw_satchelmeet_k65_days_refused.main.body.getD i (.Pass ⟨0, 0, 0, 0⟩)
abbrev s__law_purse : Stmt := top 36
abbrev s__law_take : Stmt := top 37
abbrev s__law_far : Stmt := top 38
abbrev s__law_rooms : Stmt := top 39
abbrev s__law_step : Stmt := top 40
abbrev s__law_meetings : Stmt := top 41
abbrev s__law_book : Stmt := top 42
abbrev s_is_whole : Stmt := top 20
abbrev s_is_within : Stmt := top 21
abbrev s_is_below : Stmt := top 22
abbrev s_meetings_of : Stmt := top 24
abbrev s_ways : Stmt := top 25
abbrev s_lone_row : Stmt := top 26
abbrev s_need_day : Stmt := top 32
abbrev s_first_givings_again : Stmt := top 31
abbrev s_again_times : Stmt := top 29
abbrev s_again_chain : Stmt := top 30
abbrev s_waits : Stmt := top 34
abbrev s__law_squeezed : Stmt := top 43
abbrev s__law_day : Stmt := top 44
abbrev s__law_since : Stmt := top 45
abbrev s__law_none : Stmt := top 46
abbrev s__law_asked : Stmt := top 47
abbrev s__law_said : Stmt := top 48
abbrev s_law : Stmt := top 49
set_option genInjectivity false
set_option genSizeOf false
structure Ad where
  a__law_purse : Addr
  d__law_purse : FuncData
  a__law_take : Addr
  d__law_take : FuncData
  a__law_far : Addr
  d__law_far : FuncData
  a__law_rooms : Addr
  d__law_rooms : FuncData
  a__law_step : Addr
  d__law_step : FuncData
  a__law_meetings : Addr
  d__law_meetings : FuncData
  a__law_book : Addr
  d__law_book : FuncData
  a_is_whole : Addr
  d_is_whole : FuncData
  a_is_within : Addr
  d_is_within : FuncData
  a_is_below : Addr
  d_is_below : FuncData
  a_meetings_of : Addr
  d_meetings_of : FuncData
  a_ways : Addr
  d_ways : FuncData
  a_lone_row : Addr
  d_lone_row : FuncData
  a_need_day : Addr
  d_need_day : FuncData
  a_first_givings_again : Addr
  d_first_givings_again : FuncData
  a_again_times : Addr
  d_again_times : FuncData
  a_again_chain : Addr
  d_again_chain : FuncData
  a_waits : Addr
  d_waits : FuncData
  a__law_squeezed : Addr
  d__law_squeezed : FuncData
  a__law_day : Addr
  d__law_day : FuncData
  a__law_since : Addr
  d__law_since : FuncData
  a__law_none : Addr
  d__law_none : FuncData
  a__law_asked : Addr
  d__law_asked : FuncData
  a__law_said : Addr
  d__law_said : FuncData
  a_law : Addr
  d_law : FuncData
  c_HasIt : Addr
  c_MeetError : Addr
  c_NoBook : Addr
  c_NoClaim : Addr
  c_NoDay : Addr
  c_NoDeed : Addr
  c_NoLetter : Addr
  c_NoMeeting : Addr
  c_NoName : Addr
  c_NoPass : Addr
  c_NoRoom : Addr
  c_NoRow : Addr
  c_NoRule : Addr
  c_NoText : Addr
  c_NoWalker : Addr
  c_NotThere : Addr
  c_TooMany : Addr
  c_Twice : Addr
structure Tx (K : PySem.W.Frag) (mg : Str → Option Value) (a : Ad) (a_LONGEST_DAY : Tok) : Prop where
  F__law_purse : Fun K "_law_purse" "_law_purse" s__law_purse a.a__law_purse a.d__law_purse
  i__law_purse : Binds K a.d__law_purse ["_law_script", "_law_k"] []
  m__law_purse : mg "_law_purse" = some (.ref a.a__law_purse)
  k__law_purse : PySem.W.keepIn K (.ref a.a__law_purse) = true
  F__law_take : Fun K "_law_take" "_law_take" s__law_take a.a__law_take a.d__law_take
  i__law_take : Binds K a.d__law_take ["_law_purse_here", "_law_many"] []
  m__law_take : mg "_law_take" = some (.ref a.a__law_take)
  k__law_take : PySem.W.keepIn K (.ref a.a__law_take) = true
  F__law_far : Fun K "_law_far" "_law_far" s__law_far a.a__law_far a.d__law_far
  i__law_far : Binds K a.d__law_far ["_law_purse_here"] []
  m__law_far : mg "_law_far" = some (.ref a.a__law_far)
  k__law_far : PySem.W.keepIn K (.ref a.a__law_far) = true
  F__law_rooms : Fun K "_law_rooms" "_law_rooms" s__law_rooms a.a__law_rooms a.d__law_rooms
  i__law_rooms : Binds K a.d__law_rooms ["_law_purse_here", "_law_walkers"] []
  m__law_rooms : mg "_law_rooms" = some (.ref a.a__law_rooms)
  k__law_rooms : PySem.W.keepIn K (.ref a.a__law_rooms) = true
  F__law_step : Fun K "_law_step" "_law_step" s__law_step a.a__law_step a.d__law_step
  i__law_step : Binds K a.d__law_step ["_law_purse_here"] []
  m__law_step : mg "_law_step" = some (.ref a.a__law_step)
  k__law_step : PySem.W.keepIn K (.ref a.a__law_step) = true
  F__law_meetings : Fun K "_law_meetings" "_law_meetings" s__law_meetings a.a__law_meetings a.d__law_meetings
  i__law_meetings : Binds K a.d__law_meetings ["_law_purse_here", "_law_walkers", "_law_most"] []
  m__law_meetings : mg "_law_meetings" = some (.ref a.a__law_meetings)
  k__law_meetings : PySem.W.keepIn K (.ref a.a__law_meetings) = true
  F__law_book : Fun K "_law_book" "_law_book" s__law_book a.a__law_book a.d__law_book
  i__law_book : Binds K a.d__law_book ["_law_purse_here", "_law_most_walkers", "_law_most_meetings"] []
  m__law_book : mg "_law_book" = some (.ref a.a__law_book)
  k__law_book : PySem.W.keepIn K (.ref a.a__law_book) = true
  F_is_whole : Fun K "is_whole" "is_whole" s_is_whole a.a_is_whole a.d_is_whole
  i_is_whole : Binds K a.d_is_whole ["thing"] []
  m_is_whole : mg "is_whole" = some (.ref a.a_is_whole)
  k_is_whole : PySem.W.keepIn K (.ref a.a_is_whole) = true
  F_is_within : Fun K "is_within" "is_within" s_is_within a.a_is_within a.d_is_within
  i_is_within : Binds K a.d_is_within ["thing", "least", "most"] []
  m_is_within : mg "is_within" = some (.ref a.a_is_within)
  k_is_within : PySem.W.keepIn K (.ref a.a_is_within) = true
  F_is_below : Fun K "is_below" "is_below" s_is_below a.a_is_below a.d_is_below
  i_is_below : Binds K a.d_is_below ["number", "bound"] []
  m_is_below : mg "is_below" = some (.ref a.a_is_below)
  k_is_below : PySem.W.keepIn K (.ref a.a_is_below) = true
  F_meetings_of : Fun K "meetings_of" "meetings_of" s_meetings_of a.a_meetings_of a.d_meetings_of
  i_meetings_of : Binds K a.d_meetings_of ["book", "walker"] []
  m_meetings_of : mg "meetings_of" = some (.ref a.a_meetings_of)
  k_meetings_of : PySem.W.keepIn K (.ref a.a_meetings_of) = true
  F_ways : Fun K "ways" "ways" s_ways a.a_ways a.d_ways
  i_ways : Binds K a.d_ways ["book"] []
  m_ways : mg "ways" = some (.ref a.a_ways)
  k_ways : PySem.W.keepIn K (.ref a.a_ways) = true
  F_lone_row : Fun K "lone_row" "lone_row" s_lone_row a.a_lone_row a.d_lone_row
  i_lone_row : Binds K a.d_lone_row ["book", "walker", "number"] []
  m_lone_row : mg "lone_row" = some (.ref a.a_lone_row)
  k_lone_row : PySem.W.keepIn K (.ref a.a_lone_row) = true
  F_need_day : Fun K "need_day" "need_day" s_need_day a.a_need_day a.d_need_day
  i_need_day : Binds K a.d_need_day ["book", "day"] []
  m_need_day : mg "need_day" = some (.ref a.a_need_day)
  k_need_day : PySem.W.keepIn K (.ref a.a_need_day) = true
  F_first_givings_again : Fun K "first_givings_again" "first_givings_again" s_first_givings_again a.a_first_givings_again a.d_first_givings_again
  i_first_givings_again : Binds K a.d_first_givings_again ["book", "day", "sender", "since"] []
  m_first_givings_again : mg "first_givings_again" = some (.ref a.a_first_givings_again)
  k_first_givings_again : PySem.W.keepIn K (.ref a.a_first_givings_again) = true
  F_again_times : Fun K "again_times" "again_times" s_again_times a.a_again_times a.d_again_times
  i_again_times : Binds K a.d_again_times ["book", "day", "sender", "since"] []
  m_again_times : mg "again_times" = some (.ref a.a_again_times)
  k_again_times : PySem.W.keepIn K (.ref a.a_again_times) = true
  F_again_chain : Fun K "again_chain" "again_chain" s_again_chain a.a_again_chain a.d_again_chain
  i_again_chain : Binds K a.d_again_chain ["book", "day", "sender", "since", "wish"] []
  m_again_chain : mg "again_chain" = some (.ref a.a_again_chain)
  k_again_chain : PySem.W.keepIn K (.ref a.a_again_chain) = true
  F_waits : Fun K "waits" "waits" s_waits a.a_waits a.d_waits
  i_waits : Binds K a.d_waits ["book", "day", "walker", "other"] []
  m_waits : mg "waits" = some (.ref a.a_waits)
  k_waits : PySem.W.keepIn K (.ref a.a_waits) = true
  F__law_squeezed : Fun K "_law_squeezed" "_law_squeezed" s__law_squeezed a.a__law_squeezed a.d__law_squeezed
  i__law_squeezed : Binds K a.d__law_squeezed ["_law_purse_here", "_law_book_here"] []
  m__law_squeezed : mg "_law_squeezed" = some (.ref a.a__law_squeezed)
  k__law_squeezed : PySem.W.keepIn K (.ref a.a__law_squeezed) = true
  F__law_day : Fun K "_law_day" "_law_day" s__law_day a.a__law_day a.d__law_day
  i__law_day : Binds K a.d__law_day ["_law_purse_here", "_law_book_here"] []
  m__law_day : mg "_law_day" = some (.ref a.a__law_day)
  k__law_day : PySem.W.keepIn K (.ref a.a__law_day) = true
  F__law_since : Fun K "_law_since" "_law_since" s__law_since a.a__law_since a.d__law_since
  i__law_since : Binds K a.d__law_since ["_law_purse_here", "_law_book_here", "_law_day_here"] []
  m__law_since : mg "_law_since" = some (.ref a.a__law_since)
  k__law_since : PySem.W.keepIn K (.ref a.a__law_since) = true
  F__law_none : Fun K "_law_none" "_law_none" s__law_none a.a__law_none a.d__law_none
  i__law_none : Binds K a.d__law_none ["_law_purse_here", "_law_book_here"] []
  m__law_none : mg "_law_none" = some (.ref a.a__law_none)
  k__law_none : PySem.W.keepIn K (.ref a.a__law_none) = true
  F__law_asked : Fun K "_law_asked" "_law_asked" s__law_asked a.a__law_asked a.d__law_asked
  i__law_asked : Binds K a.d__law_asked ["_law_book_here", "_law_day_here", "_law_way", "_law_since_here"] []
  m__law_asked : mg "_law_asked" = some (.ref a.a__law_asked)
  k__law_asked : PySem.W.keepIn K (.ref a.a__law_asked) = true
  F__law_said : Fun K "_law_said" "_law_said" s__law_said a.a__law_said a.d__law_said
  i__law_said : Binds K a.d__law_said ["_law_book_here", "_law_day_here", "_law_way", "_law_since_here"] []
  m__law_said : mg "_law_said" = some (.ref a.a__law_said)
  k__law_said : PySem.W.keepIn K (.ref a.a__law_said) = true
  F_law : Fun K "law" "law" s_law a.a_law a.d_law
  i_law : Binds K a.d_law ["_law_script"] []
  m_law : mg "law" = some (.ref a.a_law)
  k_law : PySem.W.keepIn K (.ref a.a_law) = true
  b_ValueError : mg "ValueError" = none
  b_any : mg "any" = none
  b_bool : mg "bool" = none
  b_enumerate : mg "enumerate" = none
  b_int : mg "int" = none
  b_isinstance : mg "isinstance" = none
  b_len : mg "len" = none
  b_max : mg "max" = none
  b_min : mg "min" = none
  b_range : mg "range" = none
  b_sorted : mg "sorted" = none
  b_tuple : mg "tuple" = none
  m_HasIt : mg "HasIt" = some (.ref a.c_HasIt)
  m_MeetError : mg "MeetError" = some (.ref a.c_MeetError)
  m_NoBook : mg "NoBook" = some (.ref a.c_NoBook)
  m_NoClaim : mg "NoClaim" = some (.ref a.c_NoClaim)
  m_NoDay : mg "NoDay" = some (.ref a.c_NoDay)
  m_NoDeed : mg "NoDeed" = some (.ref a.c_NoDeed)
  m_NoLetter : mg "NoLetter" = some (.ref a.c_NoLetter)
  m_NoMeeting : mg "NoMeeting" = some (.ref a.c_NoMeeting)
  m_NoName : mg "NoName" = some (.ref a.c_NoName)
  m_NoPass : mg "NoPass" = some (.ref a.c_NoPass)
  m_NoRoom : mg "NoRoom" = some (.ref a.c_NoRoom)
  m_NoRow : mg "NoRow" = some (.ref a.c_NoRow)
  m_NoRule : mg "NoRule" = some (.ref a.c_NoRule)
  m_NoText : mg "NoText" = some (.ref a.c_NoText)
  m_NoWalker : mg "NoWalker" = some (.ref a.c_NoWalker)
  m_NotThere : mg "NotThere" = some (.ref a.c_NotThere)
  m_TooMany : mg "TooMany" = some (.ref a.c_TooMany)
  m_Twice : mg "Twice" = some (.ref a.c_Twice)
  x_NoDay : XCls K a.c_NoDay
  f_em : PySem.W.exmOne K (.ref a.c_NoDay) (.ref a.c_MeetError) = some true
  f_ve : PySem.W.kitOne K (.ref a.c_NoDay) (.type "ValueError") = some true
  f_ka : PySem.W.kitAny K (.ref a.c_NoDay) [.ref a.c_NoBook, .ref a.c_NoClaim, .ref a.c_NoDeed, .ref a.c_NoLetter, .ref a.c_NoMeeting, .ref a.c_NoName, .ref a.c_NoPass, .ref a.c_NoRoom] = some false
  f_kb : PySem.W.kitAny K (.ref a.c_NoDay) [.ref a.c_NoRow, .ref a.c_NoRule, .ref a.c_NoText, .ref a.c_NotThere, .ref a.c_NoWalker, .ref a.c_TooMany, .ref a.c_Twice, .ref a.c_HasIt] = some false
  c_LONGEST_DAY : mg "LONGEST_DAY" = some (.int 1000000 a_LONGEST_DAY)
section
variable {P : Program} {w : World} {K : PySem.W.Frag} {mg : Str → Option Value} {base : Heap} {a : Ad} {t_LONGEST_DAY : Tok}
theorem sc__law_purse : FnScope ["_law_script", "_law_k", "_law_cell", "_law_left"] ["_law_script", "_law_k"] (defScope s__law_purse) := ⟨rfl, rfl, rfl, by decide +kernel, rfl, by decide +kernel, by decide +kernel⟩
theorem ok__law_purse (T : Tx K mg a t_LONGEST_DAY) : FnOk P w K mg base CX0 1 a.a__law_purse a.d__law_purse ["_law_script", "_law_k"] (spPurse K) := by
  refine T.F__law_purse.ok sc__law_purse (fun vs H Q E h => ?_) (fun cdv A outer s H vs Q E hr h => ?_)
  · obtain ⟨a, ns, k, rfl, _⟩ := h; rfl
  · have nd := sc__law_purse.nd
    have hu := hr.units
    obtain ⟨sa, ns, k, rfl, hS, hk, q⟩ := h
    refine ⟨_, (@bl_out _ _ _ (@bl_c _ _ _ _ _ _ (ps_set (i := 2) nd rfl (by first | exact Or.inl rfl | exact Or.inr rfl) pe_int) (@bl_c _ _ _ _ _ _ (@ps_if _ _ _ _ _ _ _ _ (@pt_cmpR _ _ _ _ _ _ _ _ op_lt (pv 1) (pe_callB (call_len_seq' rfl) (by rfl) T.b_len PySem.boot_len (@pa_out _ _ _ (@pa_c _ _ _ _ _ (pv 0) pa_n rfl))) (nomark _)) (@bl_out _ _ _ (@bl_1 _ _ _ (ps_set (i := 2) nd rfl (by first | exact Or.inl rfl | exact Or.inr rfl) (@pe_ix _ _ _ _ _ _ _ (ix_list' rfl) (pv 0) (pv 1) (fun _ _ => rfl))))) pss_nil) (@bl_c _ _ _ _ _ _ (ps_set (i := 3) nd rfl (by first | exact Or.inl rfl | exact Or.inr rfl) pe_int) (@bl_c _ _ _ _ _ _ (@ps_if _ _ _ _ _ _ _ _ (@pt_cmpR _ _ _ _ _ _ _ _ op_lt (pv 2) pe_int (nomark _)) (@bl_out _ _ _ (@bl_1 _ _ _ (ps_set (i := 3) nd rfl (by first | exact Or.inl rfl | exact Or.inr rfl) (@pe_op _ _ _ _ _ _ _ _ op_sub (@pe_un _ _ _ _ _ _ un_neg pe_int) (pv 2))))) pss_nil) (@bl_c _ _ _ _ _ _ (@ps_if _ _ _ _ _ _ _ _ (@pt_cmpR _ _ _ _ _ _ _ _ op_ge (pv 2) (@pe_op _ _ _ _ _ _ _ _ op_pow pe_int pe_int) (nomark _)) (@bl_out _ _ _ (@bl_1 _ _ _ (ps_set (i := 3) nd rfl (by first | exact Or.inl rfl | exact Or.inr rfl) (pv 2)))) pss_nil) (@bl_1 _ _ _ (@ps_ret _ _ _ _ (@pe_lst _ _ _ _ (@pa_out _ _ _ (@pa_c _ _ _ _ _ (pv 3) (@pa_c _ _ _ _ _ (@pe_op _ _ _ _ _ _ _ _ op_mod (@pe_op _ _ _ _ _ _ _ _ op_add (@pe_op _ _ _ _ _ _ _ _ op_add (@pe_op _ _ _ _ _ _ _ _ op_mul (pv 2) pe_int) (@pe_op _ _ _ _ _ _ _ _ op_mul (pv 1) pe_int)) pe_int) pe_int) (@pa_c _ _ _ _ _ pe_int pa_n rfl) rfl) rfl))))))))))), ?_⟩
    have c18 : CPow 10 18 := ⟨by decide, by decide, by decide⟩
    have s3 : 3 ≤ sizeLine := by rw [sizeLine_eq]; decide
    have fin : ∀ (x y : Int) p, H p = none → Q (.ref p) (upd H p (.lst [.int x, .int y, .int 0])) := fun x y p hp => q p _ hp ⟨x, y, 0, upd_same⟩ (same_new hp)
    have c69 : ∀ x : Int, CMul x 69 := fun x => .inr ⟨by decide, by decide⟩
    have c405 : ∀ x : Int, CMul x 40503 := fun x => .inr ⟨by decide, by decide⟩
    refine (zr rfl (zr rfl ⟨sa, zr rfl ⟨.inl hS, zr2 rfl rfl (zr rfl (iteN (fun σ H1 => ∃ c : Int, σ = [some (.ref sa), some (.int k), some (.int c), none] ∧ H = H1) ?_ (fun c k0 => ?_) (fun c => ⟨0, rfl, rfl⟩)))⟩⟩))
    · rintro σ H1 ⟨c, rfl, rfl⟩
      refine (zr rfl (zr2 rfl rfl (zr rfl (iteN (fun σ H1 => ∃ d : Int, σ = [some (.ref sa), some (.int k), some (.int c), some (.int d)] ∧ H = H1) ?_ (fun z k0 => ?_) (fun z => ⟨0, rfl, rfl⟩)))))
      · rintro σ H1 ⟨d, rfl, rfl⟩
        refine (zr rfl (zr2 rfl rfl ⟨c18, zr2 rfl rfl (zr rfl (iteN (fun σ H1 => ∃ d : Int, σ = [some (.ref sa), some (.int k), some (.int c), some (.int d)] ∧ H = H1) ?_ (fun z k0 => (zr rfl (k0 _ _ ⟨c, rfl, rfl⟩))) (fun z => ⟨d, rfl, rfl⟩)))⟩))
        rintro σ H1 ⟨d, rfl, rfl⟩
        exact (zr rfl (zr rfl (zr2 rfl rfl ⟨c69 _, zr rfl (zr2 rfl rfl ⟨c405 _, zr2 rfl rfl (zr2 rfl rfl (zr2 rfl rfl ⟨(by show (0 : Int) < 2147483647; decide), s3, fin _ _⟩))⟩)⟩)))
      · exact (zr rfl (zr rfl (zr2 rfl rfl (k0 _ _ (zr rfl rfl)))))
    · have hk2 : k < ns.length := by
        have := of_decide_eq_true c
        rw [List.length_map] at this; omega
      exact (zr rfl (zr rfl ⟨sa, _, zr2 rfl rfl ⟨hS, atI_nat (v := V.int ns[k]) (by simp [hk2]), k0 _ _ (zr rfl rfl)⟩⟩))
theorem sc__law_take : FnScope ["_law_purse_here", "_law_many", "_law_digit", "_law_mixed"] ["_law_purse_here", "_law_many"] (defScope s__law_take) := ⟨rfl, rfl, rfl, by decide +kernel, rfl, by decide +kernel, by decide +kernel⟩
theorem ok__law_take (T : Tx K mg a t_LONGEST_DAY) : FnOk P w K mg base CX0 1 a.a__law_take a.d__law_take ["_law_purse_here", "_law_many"] (spTake) := by
  refine T.F__law_take.ok sc__law_take (fun vs H Q E h => ?_) (fun cdv A outer s H vs Q E hr h => ?_)
  · obtain ⟨p, n, rfl, _⟩ := h; rfl
  · have nd := sc__law_take.nd
    have hu := hr.units
    obtain ⟨p, n, rfl, n0, n1, ⟨x, y, z, hp⟩, q⟩ := h
    refine ⟨_, (@bl_out _ _ _ (@bl_c _ _ _ _ _ _ (@ps_if _ _ _ _ _ _ _ _ (@pt_cmpR _ _ _ _ _ _ _ _ op_gt (@pe_ix _ _ _ _ _ _ _ (ix_list' rfl) (pv 0) pe_int (fun _ _ => rfl)) pe_int (nomark _)) (@bl_out _ _ _ (@bl_c _ _ _ _ _ _ (ps_set (i := 2) nd rfl (by first | exact Or.inl rfl | exact Or.inr rfl) (@pe_op _ _ _ _ _ _ _ _ op_mod (@pe_ix _ _ _ _ _ _ _ (ix_list' rfl) (pv 0) pe_int (fun _ _ => rfl)) (pv 1))) (@bl_c _ _ _ _ _ _ (ps_asg (@pe_op _ _ _ _ _ _ _ _ op_fdivB (@pe_ix _ _ _ _ _ _ _ (ix_list' rfl) (pv 0) pe_int (fun _ _ => rfl)) (pv 1)) (pg_sub (pv 0) pe_int set_list)) (@bl_1 _ _ _ (@ps_ret _ _ _ _ (pv 2)))))) pss_nil) (@bl_c _ _ _ _ _ _ (ps_augS (pv 0) pe_int (get_list rfl) pe_int ip_add set_list) (@bl_c _ _ _ _ _ _ (ps_set (i := 3) nd rfl (by first | exact Or.inl rfl | exact Or.inr rfl) (@pe_op _ _ _ _ _ _ _ _ op_mod (@pe_op _ _ _ _ _ _ _ _ op_mul (@pe_op _ _ _ _ _ _ _ _ op_add (@pe_ix _ _ _ _ _ _ _ (ix_list' rfl) (pv 0) pe_int (fun _ _ => rfl)) (@pe_op _ _ _ _ _ _ _ _ op_mul (@pe_ix _ _ _ _ _ _ _ (ix_list' rfl) (pv 0) pe_int (fun _ _ => rfl)) pe_int)) pe_int) pe_int)) (@bl_c _ _ _ _ _ _ (ps_set (i := 3) nd rfl (by first | exact Or.inl rfl | exact Or.inr rfl) (@pe_op _ _ _ _ _ _ _ _ op_mod (@pe_op _ _ _ _ _ _ _ _ op_add (@pe_op _ _ _ _ _ _ _ _ op_add (@pe_op _ _ _ _ _ _ _ _ op_mul (pv 3) (pv 3)) (@pe_op _ _ _ _ _ _ _ _ op_mul (@pe_ix _ _ _ _ _ _ _ (ix_list' rfl) (pv 0) pe_int (fun _ _ => rfl)) pe_int)) (@pe_ix _ _ _ _ _ _ _ (ix_list' rfl) (pv 0) pe_int (fun _ _ => rfl))) pe_int)) (@bl_1 _ _ _ (@ps_ret _ _ _ _ (@pe_op _ _ _ _ _ _ _ _ op_mod (@pe_op _ _ _ _ _ _ _ _ op_fdivB (@pe_op _ _ _ _ _ _ _ _ op_mod (@pe_op _ _ _ _ _ _ _ _ op_mul (pv 3) pe_int) pe_int) pe_int) (pv 1))))))))), ?_⟩
    have hS : SqL K H p _ := SqL.of hp
    have cm : ∀ x c : Int, -(2 ^ 64) < c → c < 2 ^ 64 → CMul x c := fun x c h h' => .inr ⟨h, h'⟩
    refine (zr rfl ⟨p, _, zr2 rfl rfl ⟨hS, rfl, zr2 rfl rfl (zr rfl (iteD (fun h1 => ?_) fun h1 => ?_))⟩⟩)
    · refine (zr rfl ⟨p, _, zr2 rfl rfl ⟨hS, rfl, zr rfl (zr2 rfl rfl ⟨n0, ?_⟩)⟩⟩)
      refine (zr rfl ⟨p, _, zr2 rfl rfl ⟨hS, rfl, zr rfl (zr2 rfl rfl ⟨⟨n0, n1⟩, zr rfl ⟨p, _, _, 0, rfl, rfl, hp, rfl, ?_⟩⟩)⟩⟩)
      exact (zr rfl (q _ _ (Int.emod_nonneg _ (by omega)) (Int.emod_lt_of_pos _ n0) ⟨But.set, _, _, _, upd_same⟩))
    · refine (zr rfl ⟨p, _, zr2 rfl rfl ⟨hS, rfl, zr2 rfl rfl ⟨p, _, _, 2, rfl, rfl, hp, rfl, ?_⟩⟩⟩)
      have h2 : (upd H p (HO.lst ([V.int x, V.int y, V.int z].set 2 (.int (z + 1))))) p = some (.lst [V.int x, V.int y, V.int (z + 1)]) := upd_same
      have b2 : But p H (upd H p (HO.lst ([V.int x, V.int y, V.int z].set 2 (.int (z + 1))))) := But.set
      generalize upd H p (HO.lst ([V.int x, V.int y, V.int z].set 2 (.int (z + 1)))) = H2 at h2 b2 ⊢
      have hS2 : SqL K H2 p _ := SqL.of h2
      have big : (2147483647 : Int) < 2 ^ 64 := by decide
      have low : -(2 : Int) ^ 64 < 0 := by decide
      have pos : (0 : Int) < 2147483647 := by decide
      refine (zr rfl ⟨p, _, zr2 rfl rfl ⟨hS2, rfl, zr rfl ⟨p, _, zr2 rfl rfl ⟨hS2, rfl, zr2 rfl rfl ⟨cm _ _ (by decide) (by decide), zr2 rfl rfl (zr2 rfl rfl ⟨cm _ _ (by decide) (by decide), zr2 rfl rfl ⟨(by show (0 : Int) < 2147483647; decide), ?_⟩⟩)⟩⟩⟩⟩⟩)
      have m0 := Int.emod_nonneg ((y + (z + 1) * 362437) * 48271) (show (2147483647 : Int) ≠ 0 by decide)
      have m1 := Int.emod_lt_of_pos ((y + (z + 1) * 362437) * 48271) pos
      refine (zr rfl (zr rfl (zr2 rfl rfl ⟨.inl ⟨Int.lt_of_lt_of_le low m0, Int.lt_trans m1 big⟩, zr rfl ⟨p, _, zr2 rfl rfl ⟨hS2, rfl, zr2 rfl rfl ⟨cm _ _ (by decide) (by decide), zr2 rfl rfl (zr rfl ⟨p, _, zr2 rfl rfl ⟨hS2, rfl, zr2 rfl rfl (zr2 rfl rfl ⟨(by show (0 : Int) < 2147483629; decide), ?_⟩)⟩⟩)⟩⟩⟩⟩)))
      refine (zr rfl (zr2 rfl rfl ⟨cm _ _ (by decide) (by decide), zr2 rfl rfl ⟨(by show (0 : Int) < 2147483563; decide), zr2 rfl rfl ⟨⟨by decide, by decide⟩, zr rfl (zr2 rfl rfl ⟨n0, ?_⟩)⟩⟩⟩))
      exact q _ _ (Int.emod_nonneg _ (by omega)) (Int.emod_lt_of_pos _ n0) ⟨b2, _, _, _, h2⟩
theorem sc__law_far : FnScope ["_law_purse_here", "_law_high"] ["_law_purse_here"] (defScope s__law_far) := ⟨rfl, rfl, rfl, by decide +kernel, rfl, by decide +kernel, by decide +kernel⟩
theorem ok__law_far (T : Tx K mg a t_LONGEST_DAY) : FnOk P w K mg base CX0 2 a.a__law_far a.d__law_far ["_law_purse_here"] (spFar) := by
  have G__law_take := @ok__law_take P w _ _ base _ _ T
  refine T.F__law_far.ok sc__law_far (fun vs H Q E h => ?_) (fun cdv A outer s H vs Q E hr h => ?_)
  · obtain ⟨p, rfl, _⟩ := h; rfl
  · have nd := sc__law_far.nd
    have hu := hr.units
    obtain ⟨p, rfl, hp, q⟩ := h
    refine ⟨_, (@bl_out _ _ _ (@bl_c _ _ _ _ _ _ (ps_set (i := 1) nd rfl (by first | exact Or.inl rfl | exact Or.inr rfl) (pe_call G__law_take (hr.mono (by decide)) rfl T.m__law_take T.k__law_take T.i__law_take .nil pass0 (@pa_out _ _ _ (@pa_c _ _ _ _ _ (pv 0) (@pa_c _ _ _ _ _ pe_int pa_n rfl) rfl)))) (@bl_1 _ _ _ (@ps_ret _ _ _ _ (@pe_op _ _ _ _ _ _ _ _ op_mod (@pe_op _ _ _ _ _ _ _ _ op_add (@pe_op _ _ _ _ _ _ _ _ op_mul (pv 1) pe_int) (pe_call G__law_take (hr.mono (by decide)) rfl T.m__law_take T.k__law_take T.i__law_take .nil pass0 (@pa_out _ _ _ (@pa_c _ _ _ _ _ (pv 0) (@pa_c _ _ _ _ _ pe_int pa_n rfl) rfl)))) (@pe_op _ _ _ _ _ _ _ _ op_add (@pe_op _ _ _ _ _ _ _ _ op_pow pe_int pe_int) pe_int)))))), ?_⟩
    refine (zr rfl ⟨p, zr rfl ⟨by decide, by decide, hp, fun d H1 d0 d1 g1 => (zr rfl (zr2 rfl rfl ⟨.inr ⟨by decide, by decide⟩, zr rfl ⟨p, zr rfl ⟨by decide, by decide, g1.2, fun e H2 e0 e1 g2 => (zr2 rfl rfl (zr2 rfl rfl ⟨⟨by decide, by decide, by decide⟩, zr2 rfl rfl (zr2 rfl rfl ⟨(by show (0 : Int) < 10 ^ Int.toNat 9 + 1; decide), ?_⟩)⟩))⟩⟩⟩))⟩⟩)
    have e9 : (10 : Int) ^ Int.toNat 9 + 1 = 1000000001 := by decide
    rw [e9]
    exact q _ _ (Int.emod_nonneg _ (by decide)) (Int.lt_add_one_iff.mp (Int.emod_lt_of_pos _ (by decide))) (g1.trans g2)
theorem sc__law_rooms : FnScope ["_law_purse_here", "_law_walkers", "_law_rooms_here", "_law_walker", "_law_room"] ["_law_purse_here", "_law_walkers"] (defScope s__law_rooms) := ⟨rfl, rfl, rfl, by decide +kernel, rfl, by decide +kernel, by decide +kernel⟩
theorem ok__law_rooms (T : Tx K mg a t_LONGEST_DAY) : FnOk P w K mg base CX0 2 a.a__law_rooms a.d__law_rooms ["_law_purse_here", "_law_walkers"] (spRooms) := by
  have G__law_take := @ok__law_take P w _ _ base _ _ T
  refine T.F__law_rooms.ok sc__law_rooms (fun vs H Q E h => ?_) (fun cdv A outer s H vs Q E hr h => ?_)
  · obtain ⟨p, n, rfl, _⟩ := h; rfl
  · have nd := sc__law_rooms.nd
    have hu := hr.units
    obtain ⟨p, n, rfl, hn, hp, q⟩ := h
    refine ⟨_, (@bl_out _ _ _ (@bl_c _ _ _ _ _ _ (ps_set (i := 2) nd rfl (by first | exact Or.inl rfl | exact Or.inr rfl) (@pe_lst _ _ _ _ pa_nil)) (@bl_c _ _ _ _ _ _ (ps_for PassesOwn.never rfl (pi_range1 rfl T.b_range (@pa_out _ _ _ (@pa_c _ _ _ _ _ (pv 1) pa_n rfl))) (pg_name (i := 3) nd rfl (by first | exact Or.inl rfl | exact Or.inr rfl)) (@bl_out _ _ _ (@bl_c _ _ _ _ _ _ (ps_set (i := 4) nd rfl (by first | exact Or.inl rfl | exact Or.inr rfl) (@pe_op _ _ _ _ _ _ _ _ op_fdivB (pe_call G__law_take (hr.mono (by decide)) rfl T.m__law_take T.k__law_take T.i__law_take .nil pass0 (@pa_out _ _ _ (@pa_c _ _ _ _ _ (pv 0) (@pa_c _ _ _ _ _ pe_int pa_n rfl) rfl))) pe_int)) (@bl_c _ _ _ _ _ _ (@ps_if _ _ _ _ _ _ _ _ (@pt_cmpR _ _ _ _ _ _ _ _ op_eq (pv 4) pe_int (nomark _)) (@bl_out _ _ _ (@bl_1 _ _ _ (ps_set (i := 4) nd rfl (by first | exact Or.inl rfl | exact Or.inr rfl) (pe_call G__law_take (hr.mono (by decide)) rfl T.m__law_take T.k__law_take T.i__law_take .nil pass0 (@pa_out _ _ _ (@pa_c _ _ _ _ _ (pv 0) (@pa_c _ _ _ _ _ pe_int pa_n rfl) rfl)))))) pss_nil) (@bl_1 _ _ _ (ps_expr (pe_bm PySem.F.plainAttrs_list PySem.F.slot_list_append PySem.F.type_list_append mt_append (pv 2) (@pa_out _ _ _ (@pa_c _ _ _ _ _ (pv 4) pa_n rfl))))))))) (@bl_1 _ _ _ (@ps_ret _ _ _ _ (pe_callTy (call_tuple_of) (by rfl) T.b_tuple PyProof.Rows.boot_tuple (@pa_out _ _ _ (@pa_c _ _ _ _ _ (pv 2) pa_n rfl)))))))), ?_⟩
    have line : 1001 ≤ sizeLine := by rw [sizeLine_eq]; decide
    refine ⟨Nat.zero_le _, fun l hl => ?_⟩
    have npl := hp.ne hl
    refine (zr rfl (zr rfl ⟨by omega, by omega, ?_⟩))
    refine for_range (lo := 0) (n := n) (fun i σ H2 => ∃ v3 v4 rs, σ = [some (.ref p), some (.int n), some (.ref l), v3, v4] ∧ H2 l = some (.lst (List.map V.int rs)) ∧ rs.length = i ∧ (∀ r ∈ rs, (0 : Int) ≤ r ∧ r ≤ 99) ∧ Go p H H2)
      ⟨_, _, [], rfl, upd_same, rfl, (fun _ z => nomatch z), (Go.refl hp).new hl⟩ ?_ ?_
    · rintro i σ H2 hi ⟨v3, v4, rs, rfl, h2, hlen, hr, go⟩
      refine (zr rfl ⟨p, zr rfl ⟨by decide, by decide, go.2, fun d H3 d0 d1 g3 => (zr2 rfl rfl ⟨⟨by decide, by decide⟩, ?_⟩)⟩⟩)
      refine (zr rfl ⟨rfl, zr rfl (iteN (fun σ H4 => ∃ x : Int, σ = [some (.ref p), some (.int n), some (.ref l), some (.int (0 + (i : Int))), some (.int x)] ∧ 0 ≤ x ∧ x ≤ 99 ∧ Go p H2 H4) ?_ (fun c k0 => (zr rfl ⟨p, zr rfl ⟨by decide, by decide, g3.2, fun e H4 e0 e1 g4 => k0 _ _ ⟨e, rfl, e0, by omega, g3.trans g4⟩⟩⟩)) (fun c => (zr rfl ⟨by omega, by omega, g3⟩)))⟩)
      rintro σ H4 ⟨x, rfl, x0, x1, g4⟩
      have h4 := g4.1 l _ npl h2
      refine (zr rfl ⟨.inl ⟨rfl, _, SqL.of h4⟩, zr rfl ⟨l, zr2 rfl rfl ⟨h4, by rw [List.length_map]; omega, _, _, rs ++ [x], rfl, by rw [upd_same, List.map_append]; rfl, by simp [hlen], fun r hr' => ?_, ?_⟩⟩⟩)
      · rcases List.mem_append.mp hr' with h | h
        · exact hr r h
        · cases List.mem_singleton.mp h; exact ⟨x0, x1⟩
      · have g2 := go.trans g4
        refine ⟨fun b u nb e => ?_, ?_⟩
        · rw [upd_ne (ne_of_none e hl)]; exact g2.1 b u nb e
        · obtain ⟨a, b, c, e⟩ := g2.2
          exact ⟨a, b, c, by rw [upd_ne npl.symm]; exact e⟩
    · rintro σ H2 ⟨v3, v4, rs, rfl, h2, hlen, hr, go⟩
      exact (zr rfl ⟨l, zr rfl (.inl ⟨SqL.of h2, fun t ht => q t rs _ (go.new ht) upd_same hlen hr⟩)⟩)
theorem sc__law_step : FnScope ["_law_purse_here", "_law_way"] ["_law_purse_here"] (defScope s__law_step) := ⟨rfl, rfl, rfl, by decide +kernel, rfl, by decide +kernel, by decide +kernel⟩
theorem ok__law_step (T : Tx K mg a t_LONGEST_DAY) : FnOk P w K mg base CX0 2 a.a__law_step a.d__law_step ["_law_purse_here"] (spStep) := by
  have G__law_take := @ok__law_take P w _ _ base _ _ T
  refine T.F__law_step.ok sc__law_step (fun vs H Q E h => ?_) (fun cdv A outer s H vs Q E hr h => ?_)
  · obtain ⟨p, rfl, _⟩ := h; rfl
  · have nd := sc__law_step.nd
    have hu := hr.units
    obtain ⟨p, rfl, hp, q⟩ := h
    refine ⟨_, (@bl_out _ _ _ (@bl_c _ _ _ _ _ _ (ps_set (i := 1) nd rfl (by first | exact Or.inl rfl | exact Or.inr rfl) (pe_call G__law_take (hr.mono (by decide)) rfl T.m__law_take T.k__law_take T.i__law_take .nil pass0 (@pa_out _ _ _ (@pa_c _ _ _ _ _ (pv 0) (@pa_c _ _ _ _ _ pe_int pa_n rfl) rfl)))) (@bl_c _ _ _ _ _ _ (@ps_if _ _ _ _ _ _ _ _ (@pt_cmpR _ _ _ _ _ _ _ _ op_lt (pv 1) pe_int (nomark _)) (@bl_out _ _ _ (@bl_1 _ _ _ (@ps_ret _ _ _ _ (@pe_ix _ _ _ _ _ _ _ (ix_list' rfl) (@pe_lst _ _ _ _ (@pa_out _ _ _ (@pa_c _ _ _ _ _ pe_int (@pa_c _ _ _ _ _ pe_int (@pa_c _ _ _ _ _ pe_int pa_n rfl) rfl) rfl))) (pv 1) (fun _ _ => rfl))))) pss_nil) (@bl_c _ _ _ _ _ _ (@ps_if _ _ _ _ _ _ _ _ (@pt_cmpR _ _ _ _ _ _ _ _ op_eq (pv 1) pe_int (nomark _)) (@bl_out _ _ _ (@bl_1 _ _ _ (@ps_ret _ _ _ _ (@pe_op _ _ _ _ _ _ _ _ op_add pe_int (pe_call G__law_take (hr.mono (by decide)) rfl T.m__law_take T.k__law_take T.i__law_take .nil pass0 (@pa_out _ _ _ (@pa_c _ _ _ _ _ (pv 0) (@pa_c _ _ _ _ _ pe_int pa_n rfl) rfl))))))) pss_nil) (@bl_1 _ _ _ (@ps_ret _ _ _ _ (@pe_op _ _ _ _ _ _ _ _ op_add pe_int (pe_call G__law_take (hr.mono (by decide)) rfl T.m__law_take T.k__law_take T.i__law_take .nil pass0 (@pa_out _ _ _ (@pa_c _ _ _ _ _ (pv 0) (@pa_c _ _ _ _ _ (@pe_op _ _ _ _ _ _ _ _ op_mul pe_int (@pe_op _ _ _ _ _ _ _ _ op_pow pe_int pe_int)) pa_n rfl) rfl)))))))))), ?_⟩
    have s3 : 3 ≤ sizeLine := by rw [sizeLine_eq]; decide
    refine (zr rfl ⟨p, zr rfl ⟨by decide, by decide, hp, fun d H1 d0 d1 g1 => (zr rfl (zr2 rfl rfl (zr rfl (iteD (fun h1 => ?_) fun h1 => ?_))))⟩⟩)
    · obtain ⟨v, hv, v0, v1⟩ : ∃ v : Int, atI [V.int 0, V.int 1, V.int 1] d = some (V.int v) ∧ 0 ≤ v ∧ v ≤ 1 := by
        obtain rfl | rfl | rfl : d = 0 ∨ d = 1 ∨ d = 2 := by omega
        · exact ⟨0, rfl, by decide, by decide⟩
        · exact ⟨1, rfl, by decide, by decide⟩
        · exact ⟨1, rfl, by decide, by decide⟩
      exact ⟨s3, fun l hl => (zr rfl (ixl upd_same hv (q _ _ v0 (by omega) (g1.new hl))))⟩
    · refine (zr rfl ⟨rfl, zr rfl (iteD (fun h2 => ?_) fun h2 => ?_)⟩)
      · exact (zr rfl ⟨p, zr rfl ⟨by decide, by decide, g1.2, fun e H2 e0 e1 g2 => (zr2 rfl rfl (q _ _ (by omega) (by omega) (g1.trans g2)))⟩⟩)
      · have e16 : (16 : Int) * 10 ^ Int.toNat 6 = 16000000 := by decide
        refine (zr rfl (zr2 rfl rfl ⟨⟨by decide, by decide, by decide⟩, zr2 rfl rfl ⟨.inl ⟨by decide, by decide⟩, p, zr rfl ⟨by decide, by decide, g1.2, fun e H2 e0 e1 g2 => (zr2 rfl rfl (q _ _ (by omega) (by rw [e16] at e1; omega) (g1.trans g2)))⟩⟩⟩))
theorem sc__law_meetings : FnScope ["_law_purse_here", "_law_walkers", "_law_most", "_law_found", "_law_when", "_law_busy", "_law_k", "_law_one", "_law_other", "_law_gap", "_law_passed", "_law_late"] ["_law_purse_here", "_law_walkers", "_law_most"] (defScope s__law_meetings) := ⟨rfl, rfl, rfl, by decide +kernel, rfl, by decide +kernel, by decide +kernel⟩
theorem ok__law_meetings (T : Tx K mg a t_LONGEST_DAY) : FnOk P w K mg base CX0 3 a.a__law_meetings a.d__law_meetings ["_law_purse_here", "_law_walkers", "_law_most"] (spMeetings) := by
  have G__law_take := @ok__law_take P w _ _ base _ _ T
  have G__law_step := @ok__law_step P w _ _ base _ _ T
  refine T.F__law_meetings.ok sc__law_meetings (fun vs H Q E h => ?_) (fun cdv A outer s H vs Q E hr h => ?_)
  · obtain ⟨p, w, n, rfl, _⟩ := h; rfl
  · have nd := sc__law_meetings.nd
    have hu := hr.units
    obtain ⟨p, w, n, rfl, hn, w9, hw, hp, q⟩ := h
    refine ⟨_, (@bl_out _ _ _ (@bl_c _ _ _ _ _ _ (ps_set (i := 3) nd rfl (by first | exact Or.inl rfl | exact Or.inr rfl) (@pe_lst _ _ _ _ pa_nil)) (@bl_c _ _ _ _ _ _ (ps_set (i := 4) nd rfl (by first | exact Or.inl rfl | exact Or.inr rfl) (@pe_op _ _ _ _ _ _ _ _ op_add pe_int (@pe_op _ _ _ _ _ _ _ _ op_mul (@pe_op _ _ _ _ _ _ _ _ op_fdivB (pe_call G__law_take (hr.mono (by decide)) rfl T.m__law_take T.k__law_take T.i__law_take .nil pass0 (@pa_out _ _ _ (@pa_c _ _ _ _ _ (pv 0) (@pa_c _ _ _ _ _ pe_int pa_n rfl) rfl))) pe_int) (pe_call G__law_take (hr.mono (by decide)) rfl T.m__law_take T.k__law_take T.i__law_take .nil pass0 (@pa_out _ _ _ (@pa_c _ _ _ _ _ (pv 0) (@pa_c _ _ _ _ _ (@pe_op _ _ _ _ _ _ _ _ op_pow pe_int pe_int) pa_n rfl) rfl)))))) (@bl_c _ _ _ _ _ _ (ps_set (i := 5) nd rfl (by first | exact Or.inl rfl | exact Or.inr rfl) (@pe_lst _ _ _ _ pa_nil)) (@bl_c _ _ _ _ _ _ (ps_for PassesOwn.never rfl (pi_range1 rfl T.b_range (@pa_out _ _ _ (@pa_c _ _ _ _ _ (pv 2) pa_n rfl))) (pg_name (i := 6) nd rfl (by first | exact Or.inl rfl | exact Or.inr rfl)) (@bl_out _ _ _ (@bl_c _ _ _ _ _ _ (ps_set (i := 7) nd rfl (by first | exact Or.inl rfl | exact Or.inr rfl) (pe_call G__law_take (hr.mono (by decide)) rfl T.m__law_take T.k__law_take T.i__law_take .nil pass0 (@pa_out _ _ _ (@pa_c _ _ _ _ _ (pv 0) (@pa_c _ _ _ _ _ (pv 1) pa_n rfl) rfl)))) (@bl_c _ _ _ _ _ _ (ps_set (i := 8) nd rfl (by first | exact Or.inl rfl | exact Or.inr rfl) (@pe_op _ _ _ _ _ _ _ _ op_mod (@pe_op _ _ _ _ _ _ _ _ op_add (@pe_op _ _ _ _ _ _ _ _ op_add (pv 7) pe_int) (pe_call G__law_take (hr.mono (by decide)) rfl T.m__law_take T.k__law_take T.i__law_take .nil pass0 (@pa_out _ _ _ (@pa_c _ _ _ _ _ (pv 0) (@pa_c _ _ _ _ _ (@pe_op _ _ _ _ _ _ _ _ op_sub (pv 1) pe_int) pa_n rfl) rfl)))) (pv 1))) (@bl_c _ _ _ _ _ _ (ps_set (i := 9) nd rfl (by first | exact Or.inl rfl | exact Or.inr rfl) (pe_call G__law_step (hr.mono (by decide)) rfl T.m__law_step T.k__law_step T.i__law_step .nil pass0 (@pa_out _ _ _ (@pa_c _ _ _ _ _ (pv 0) pa_n rfl)))) (@bl_c _ _ _ _ _ _ (@ps_if _ _ _ _ _ _ _ _ (@PW.pt _ _ _ (@pw_or _ _ _ _ _ _ _ (@pt_cmpR _ _ _ _ _ _ _ _ (op_in_seq' rfl) (pv 7) (pv 5) rfl) (@pw_or1 _ _ _ _ (@pt_cmpR _ _ _ _ _ _ _ _ (op_in_seq' rfl) (pv 8) (pv 5) rfl)))) (@bl_out _ _ _ (@bl_1 _ _ _ (ps_set (i := 9) nd rfl (by first | exact Or.inl rfl | exact Or.inr rfl) (pe_callB (call_max2 rfl) (by rfl) T.b_max PyProof.Rows.boot_max (@pa_out _ _ _ (@pa_c _ _ _ _ _ pe_int (@pa_c _ _ _ _ _ (pv 9) pa_n rfl) rfl)))))) pss_nil) (@bl_c _ _ _ _ _ _ (@ps_if _ _ _ _ _ _ _ _ (@pt_cmpR _ _ _ _ _ _ _ _ op_gt (pv 9) pe_int (nomark _)) (@bl_out _ _ _ (@bl_1 _ _ _ (ps_set (i := 5) nd rfl (by first | exact Or.inl rfl | exact Or.inr rfl) (@pe_lst _ _ _ _ pa_nil)))) pss_nil) (@bl_c _ _ _ _ _ _ (ps_set (i := 4) nd rfl (by first | exact Or.inl rfl | exact Or.inr rfl) (@pe_op _ _ _ _ _ _ _ _ op_add (pv 4) (pv 9))) (@bl_c _ _ _ _ _ _ (ps_set (i := 5) nd rfl (by first | exact Or.inl rfl | exact Or.inr rfl) (@pe_op _ _ _ _ _ _ _ _ op_cat (pv 5) (@pe_lst _ _ _ _ (@pa_out _ _ _ (@pa_c _ _ _ _ _ (pv 7) (@pa_c _ _ _ _ _ (pv 8) pa_n rfl) rfl))))) (@bl_c _ _ _ _ _ _ (ps_set (i := 10) nd rfl (by first | exact Or.inl rfl | exact Or.inr rfl) (@pe_op _ _ _ _ _ _ _ _ op_add pe_int (@pe_op _ _ _ _ _ _ _ _ op_fdivB (pe_call G__law_take (hr.mono (by decide)) rfl T.m__law_take T.k__law_take T.i__law_take .nil pass0 (@pa_out _ _ _ (@pa_c _ _ _ _ _ (pv 0) (@pa_c _ _ _ _ _ pe_int pa_n rfl) rfl))) pe_int))) (@bl_c _ _ _ _ _ _ (@ps_if _ _ _ _ _ _ _ _ (@pt_cmpR _ _ _ _ _ _ _ _ op_eq (pe_call G__law_take (hr.mono (by decide)) rfl T.m__law_take T.k__law_take T.i__law_take .nil pass0 (@pa_out _ _ _ (@pa_c _ _ _ _ _ (pv 0) (@pa_c _ _ _ _ _ pe_int pa_n rfl) rfl))) pe_int (nomark _)) (@bl_out _ _ _ (@bl_1 _ _ _ (ps_set (i := 10) nd rfl (by first | exact Or.inl rfl | exact Or.inr rfl) (@pe_op _ _ _ _ _ _ _ _ op_add pe_int (pe_call G__law_take (hr.mono (by decide)) rfl T.m__law_take T.k__law_take T.i__law_take .nil pass0 (@pa_out _ _ _ (@pa_c _ _ _ _ _ (pv 0) (@pa_c _ _ _ _ _ pe_int pa_n rfl) rfl))))))) pss_nil) (@bl_1 _ _ _ (ps_expr (pe_bm PySem.F.plainAttrs_list PySem.F.slot_list_append PySem.F.type_list_append mt_append (pv 3) (@pa_out _ _ _ (@pa_c _ _ _ _ _ (@pe_tup _ _ _ _ _ (@pa_out _ _ _ (@pa_c _ _ _ _ _ (pv 4) (@pa_c _ _ _ _ _ (pe_callB (call_min2 rfl) (by rfl) T.b_min PyProof.Rows.boot_min (@pa_out _ _ _ (@pa_c _ _ _ _ _ (pv 7) (@pa_c _ _ _ _ _ (pv 8) pa_n rfl) rfl))) (@pa_c _ _ _ _ _ (pe_callB (call_max2 rfl) (by rfl) T.b_max PyProof.Rows.boot_max (@pa_out _ _ _ (@pa_c _ _ _ _ _ (pv 7) (@pa_c _ _ _ _ _ (pv 8) pa_n rfl) rfl))) (@pa_c _ _ _ _ _ (pv 10) pa_n rfl) rfl) rfl) rfl))) pa_n rfl)))))))))))))))) (@bl_c _ _ _ _ _ _ (ps_set (i := 11) nd rfl (by first | exact Or.inl rfl | exact Or.inr rfl) pe_int) (@bl_c _ _ _ _ _ _ (@ps_if _ _ _ _ _ _ _ _ (@PW.pt _ _ _ (@pw_and _ _ _ _ _ _ _ (@pt_cmpR _ _ _ _ _ _ _ _ op_eq (pe_call G__law_take (hr.mono (by decide)) rfl T.m__law_take T.k__law_take T.i__law_take .nil pass0 (@pa_out _ _ _ (@pa_c _ _ _ _ _ (pv 0) (@pa_c _ _ _ _ _ pe_int pa_n rfl) rfl))) pe_int (nomark _)) (@pw_and1 _ _ _ _ (@pt_cmpR _ _ _ _ _ _ _ _ (op_neNil hu) (pv 3) (@pe_lst _ _ _ _ pa_nil) (nomark _))))) (@bl_out _ _ _ (@bl_1 _ _ _ (ps_set (i := 11) nd rfl (by first | exact Or.inl rfl | exact Or.inr rfl) (@pe_op _ _ _ _ _ _ _ _ op_sub (@pe_op _ _ _ _ _ _ _ _ op_pow pe_int pe_int) (pv 4))))) pss_nil) (@bl_1 _ _ _ (@ps_ret _ _ _ _ (pe_callTy (call_tuple_of) (by rfl) T.b_tuple PyProof.Rows.boot_tuple (@pa_out _ _ _ (@pa_c _ _ _ _ _ (pe_comp (own := ["_law_then", "_law_low", "_law_high", "_law_room"]) (caps := [11]) rfl (show CompScope ["_law_then", "_law_low", "_law_high", "_law_room"] [11] ["_law_purse_here", "_law_walkers", "_law_most", "_law_found", "_law_when", "_law_busy", "_law_k", "_law_one", "_law_other", "_law_gap", "_law_passed", "_law_late"] (defScope s__law_meetings) _ from ⟨rfl, by decide +kernel, by decide +kernel, by decide +kernel, by decide +kernel⟩) (@pi_list' _ _ _ _ _ rfl (pe_callB (call_sortT) (by rfl) T.b_sorted PyProof.Rows.boot_sorted (@pa_out _ _ _ (@pa_c _ _ _ _ _ (pv 3) pa_n rfl)))) (fun _ _ _ _ => (pg_tup' (n := 4) rfl rfl (pgs_cons (pg_name (i := 0) (show List.Nodup (["_law_then", "_law_low", "_law_high", "_law_room", "_law_late"] : List Str) from by decide +kernel) rfl (by first | exact Or.inl rfl | exact Or.inr rfl)) (pgs_cons (pg_name (i := 1) (show List.Nodup (["_law_then", "_law_low", "_law_high", "_law_room", "_law_late"] : List Str) from by decide +kernel) rfl (by first | exact Or.inl rfl | exact Or.inr rfl)) (pgs_cons (pg_name (i := 2) (show List.Nodup (["_law_then", "_law_low", "_law_high", "_law_room", "_law_late"] : List Str) from by decide +kernel) rfl (by first | exact Or.inl rfl | exact Or.inr rfl)) (pgs_cons (pg_name (i := 3) (show List.Nodup (["_law_then", "_law_low", "_law_high", "_law_room", "_law_late"] : List Str) from by decide +kernel) rfl (by first | exact Or.inl rfl | exact Or.inr rfl)) pgs_nil)))))) (fun _ _ _ _ => pts_nil) (fun _ _ _ _ => (@pe_tup _ _ _ _ _ (@pa_out _ _ _ (@pa_c _ _ _ _ _ (pv 1) (@pa_c _ _ _ _ _ (pv 2) (@pa_c _ _ _ _ _ (@pe_op _ _ _ _ _ _ _ _ op_add (pv 0) (pv 4)) (@pa_c _ _ _ _ _ (pv 3) pa_n rfl) rfl) rfl) rfl))))) pa_n rfl)))))))))))), ?_⟩
    have line : 1001 ≤ sizeLine := by rw [sizeLine_eq]; decide
    have c7 : CPow 10 7 := ⟨by decide, by decide, by decide⟩
    have e7 : (10 : Int) ^ Int.toNat 7 = 10000000 := by decide
    have e64 : (2 : Int) ^ 64 > 1000 := by decide
    have e200 : (2 : Int) ^ 200 > 1000 := by decide
    refine ⟨Nat.zero_le _, fun lf hlf => ?_⟩
    have npf := hp.ne hlf
    have hp1 : Purse (upd H lf (.lst [])) p := hp.new hlf
    refine (zr rfl ⟨p, zr rfl ⟨by decide, by decide, hp1, fun d H1 d0 d1 g1 => (zr2 rfl rfl ⟨⟨by decide, by decide⟩, zr rfl (zr2 rfl rfl ⟨c7, ?_⟩)⟩)⟩⟩)
    refine ⟨p, zr rfl ⟨by decide, by decide, g1.2, fun d2 H2 d20 d21 g2 => (zr2 rfl rfl ⟨.inl ⟨by omega, by omega⟩, zr2 rfl rfl ?_⟩)⟩⟩
    rw [e7] at d21
    refine ⟨Nat.zero_le _, fun lb hlb => ?_⟩
    have fr2 := g1.trans g2
    have hlf2 : H2 lf = some (.lst []) := fr2.1 lf _ npf upd_same
    have go0 : Go p H H2 := ((Go.refl hp).new hlf).trans fr2
    refine (zr rfl (zr rfl ⟨by omega, by omega, ?_⟩))
    have wh0 : 1 ≤ 1 + d / 2 * d2 ∧ 1 + d / 2 * d2 ≤ 10000000 := by
      obtain h | h : d / 2 = 0 ∨ d / 2 = 1 := by omega
      · rw [h]; omega
      · rw [h]; omega
    refine for_range (lo := 0) (n := n) (PvM p lf w n H)
      ⟨_, _, _, _, _, _, lb, [], [], rfl, by rw [upd_ne (ne_of_none hlf2 hlb)]; exact hlf2, upd_same, (ne_of_none hlf2 hlb).symm, go0.2.ne hlb, (fun _ z => nomatch z), ⟨(fun _ z => nomatch z), .nil, (fun _ z => nomatch z)⟩, rfl, by simp, wh0.1, (by have := wh0.2; simpa using this), go0.new hlb⟩ ?_ ?_
    · rintro i σ H3 hi ⟨v6, v7, v8, v9, v10, wh, lb, bs, fs, rfl, h3f, h3b, nbf, nbp, h3r, F, lenf, lenb, wh1, wh2, go⟩
      have w2 : 2 ≤ w := by omega
      refine (zr rfl (zr rfl ⟨p, w, rfl, by omega, by omega, go.2, fun one H4 o0 o1 g4 => ?_⟩))
      refine (zr rfl (zr2 rfl rfl (zr rfl (zr rfl (zr2 rfl rfl ⟨p, zr rfl ⟨by omega, by omega, g4.2, fun x H5 x0 x1 g5 => (zr2 rfl rfl (zr rfl (zr2 rfl rfl ⟨by omega, ?_⟩)))⟩⟩)))))
      have ot := oth_ok o0 o1 x0 x1
      refine (zr rfl ⟨p, rfl, g5.2, fun gap H6 gap0 gap1 g6 => ?_⟩)
      have g46 := g4.trans (g5.trans g6)
      have hb6 := g46.1 lb _ nbp h3b
      have hf6 := g46.1 lf _ npf h3f
      refine (zr rfl (zr rfl ⟨lb, zr rfl ⟨.inl (SqL.of hb6), rfl, flat_ints bs, zr rfl (iteO (fun σ H7 => ∃ gp : Int, σ = [some (.ref p), some (.int w), some (.int n), some (.ref lf), some (.int wh), some (.ref lb), some (.int (0 + (i : Int))), some (.int one), some (.int ((one + 1 + x) % w)), some (.int gp), v10, none] ∧ H6 = H7 ∧ 0 ≤ gp ∧ gp ≤ 16000000 ∧ (gp = 0 → one ∉ bs ∧ (one + 1 + x) % w ∉ bs)) ?_ (fun c1 k0 => ?_) (fun c1 k0 => (zr rfl (zr rfl ⟨lb, zr rfl ⟨.inl (SqL.of hb6), rfl, flat_ints bs, zr rfl (iteB (fun c2 => ?_) (fun c2 => ?_))⟩⟩))))⟩⟩))
      rotate_left
      · exact (zr rfl (zr1 rfl (k0 _ _ (zr rfl ⟨rfl, by split <;> omega, by split <;> omega, fun z => by split at z <;> omega⟩))))
      · exact (zr rfl (zr1 rfl (k0 _ _ (zr rfl ⟨rfl, by split <;> omega, by split <;> omega, fun z => by split at z <;> omega⟩))))
      · have c1' : one ∉ bs := of_decide_eq_false (inV_ints.symm.trans c1)
        have c2' : (one + 1 + x) % w ∉ bs := of_decide_eq_false (inV_ints.symm.trans c2)
        exact k0 _ _ ⟨gap, rfl, rfl, by omega, by omega, fun _ => ⟨c1', c2'⟩⟩
      rintro σ H7 ⟨gp, rfl, rfl, gp0, gp1, hg⟩
      refine (zr rfl (zr2 rfl rfl (zr rfl (iteN (fun σ H7 => ∃ ly bz, σ = [some (.ref p), some (.int w), some (.int n), some (.ref lf), some (.int wh), some (.ref ly), some (.int (0 + (i : Int))), some (.int one), some (.int ((one + 1 + x) % w)), some (.int gp), v10, none] ∧ Go p H3 H7 ∧ H7 ly = some (.lst (List.map V.int bz)) ∧ ly ≠ p ∧ bz.length ≤ 2 * i ∧ ∀ z ∈ bs, gp = 0 → z ∈ bz) ?_ (fun c3 k0 => ⟨Nat.zero_le _, fun ln hln => k0 _ _ ⟨ln, [], rfl, g46.new hln, upd_same, g46.2.ne hln, Nat.zero_le _, fun _ _ z => by have := of_decide_eq_true c3; omega⟩⟩) (fun c3 => ⟨lb, bs, rfl, g46, hb6, nbp, lenb, fun _ z _ => z⟩)))))
      rintro σ H7 ⟨ly, bz, rfl, gy, hyb, nyp, leny, hb0⟩
      have h3f' := gy.1 lf _ npf h3f
      refine (zr rfl (zr rfl (zr2 rfl rfl ?_)))
      refine (zr rfl (zr rfl (zr rfl ⟨by show 2 ≤ sizeLine; omega, fun l2 hl2 => ?_⟩)))
      have g2' := gy.new (o := HO.lst [V.int one, V.int ((one + 1 + x) % w)]) hl2
      have hyb2 := same_new (o := HO.lst [V.int one, V.int ((one + 1 + x) % w)]) hl2 _ _ hyb
      have h22 : (upd H7 l2 (HO.lst [V.int one, V.int ((one + 1 + x) % w)])) l2 = some (.lst [V.int one, V.int ((one + 1 + x) % w)]) := upd_same
      generalize upd H7 l2 (HO.lst [V.int one, V.int ((one + 1 + x) % w)]) = H8 at g2' hyb2 h22 ⊢
      refine ⟨ly, l2, zr2 rfl rfl ⟨hyb2, h22, (by simp only [List.length_map, List.length_cons, List.length_nil]; omega), fun l3 hl3 => ?_⟩⟩
      have n3p : l3 ≠ p := g2'.2.ne hl3
      have n3f : l3 ≠ lf := (ne_of_none (g2'.1 lf _ npf h3f) hl3).symm
      have g3' := g2'.new (o := HO.lst (List.map V.int bz ++ [V.int one, V.int ((one + 1 + x) % w)])) hl3
      have h3b' : (upd H8 l3 (HO.lst (List.map V.int bz ++ [V.int one, V.int ((one + 1 + x) % w)]))) l3 = some (.lst (List.map V.int (bz ++ [one, (one + 1 + x) % w]))) := by rw [upd_same, List.map_append]; rfl
      generalize upd H8 l3 (HO.lst (List.map V.int bz ++ [V.int one, V.int ((one + 1 + x) % w)])) = H9 at g3' h3b' ⊢
      refine (zr rfl ⟨p, zr rfl ⟨by decide, by decide, g3'.2, fun d4 H10 d40 d41 g10 => (zr2 rfl rfl ⟨⟨by decide, by decide⟩, zr2 rfl rfl ?_⟩)⟩⟩)
      refine (zr rfl ⟨p, zr rfl ⟨by decide, by decide, g10.2, fun d5 H11 d50 d51 g11 => ⟨rfl, zr rfl (iteN (fun σ H12 => ∃ mm : Int, σ = [some (.ref p), some (.int w), some (.int n), some (.ref lf), some (.int (wh + gp)), some (.ref l3), some (.int (0 + (i : Int))), some (.int one), some (.int ((one + 1 + x) % w)), some (.int gp), some (.int mm), none] ∧ 1 ≤ mm ∧ mm ≤ 99 ∧ Go p H9 H12) ?_ (fun c5 k0 => (zr rfl ⟨p, zr rfl ⟨by decide, by decide, g11.2, fun d6 H12 d60 d61 g12 => (zr2 rfl rfl (k0 _ _ (zr rfl ⟨by omega, by omega, (g10.trans g11).trans g12⟩)))⟩⟩)) (fun c5 => (zr rfl ⟨by omega, by omega, g10.trans g11⟩)))⟩⟩⟩)
      rintro σ H12 ⟨mm, rfl, mm0, mm1, g12⟩
      have gall := g3'.trans g12
      have hz := gall.1 lf _ npf h3f
      refine (zr rfl ⟨.inl ⟨rfl, _, SqL.of hz⟩, zr rfl (zr rfl (zr rfl (zr1 rfl (zr rfl (zr rfl (zr1 rfl (zr rfl ⟨by show 4 ≤ sizeLine; omega, fun t ht => ⟨lf, zr2 rfl rfl ⟨(by rw [upd_ne (ne_of_none hz ht)]; exact hz), (by rw [List.length_map]; omega), ?_⟩⟩⟩)))))))⟩)
      exact PvM.step npf hlf F lenf (bs' := bz ++ [one, (one + 1 + x) % w]) (by simp only [List.length_append, List.length_cons, List.length_nil]; omega) wh1 wh2 hz (g12.1 l3 _ n3p h3b') n3f n3p (fun a ha => gall.tups go.2 _ _ (h3r a ha)) (go.trans gall) ht gp0 gp1 o0 o1 ot.1 ot.2.1 ot.2.2 mm0 mm1 hg (fun z hz1 hz2 => List.mem_append_left _ (hb0 z hz1 hz2)) (by simp) (by simp)
    · rintro σ H3 ⟨v6, v7, v8, v9, v10, wh, lb, bs, fs, rfl, h3f, h3b, nbf, nbp, h3r, F, lenf, lenb, wh1, wh2, go⟩
      have c9 : CPow 10 9 := ⟨by decide, by decide, by decide⟩
      have e9 : (10 : Int) ^ Int.toNat 9 = 1000000000 := by decide
      refine (zr rfl ⟨p, zr rfl ⟨by decide, by decide, go.2, fun d8 H4 _ _ g4 => ⟨rfl, zr rfl (iteA (fun σ H5 => ∃ late : Int, (∃ v6 v7 v8 v9 v10, σ = [some (.ref p), some (.int w), some (.int n), some (.ref lf), some (.int wh), some (.ref lb), v6, v7, v8, v9, v10, some (.int late)]) ∧ Go p H3 H5 ∧ 0 ≤ late ∧ (fs ≠ [] → wh + late ≤ 1000000000)) ?_ (fun c k0 => ?_) (fun c => ⟨0, ⟨_, _, _, _, _, rfl⟩, g4, Int.le_refl _, fun _ => by omega⟩))⟩⟩⟩)
      rotate_left
      · have h4f := g4.1 lf _ npf h3f
        refine (zr rfl ⟨Nat.zero_le _, fun l4 hl4 => ⟨lf, l4, zr rfl ⟨rfl, SqL.of (by rw [upd_ne (ne_of_none h4f hl4)]; exact h4f), SqL.of upd_same, zr rfl (iteB (fun c2 => ?_) (fun c2 => ?_))⟩⟩⟩)
        · exact (zr2 rfl rfl ⟨c9, zr rfl (zr2 rfl rfl (k0 _ _ ⟨_, ⟨_, _, _, _, _, rfl⟩, g4.new hl4, by rw [e9]; omega, fun _ => by rw [e9]; omega⟩))⟩)
        · exact k0 _ _ ⟨0, ⟨_, _, _, _, _, rfl⟩, g4.new hl4, Int.le_refl _, fun _ => by omega⟩
      rintro σ Hz ⟨late, ⟨v6', v7', v8', v9', v10', rfl⟩, gz, L0, L1⟩
      have hz := gz.1 lf _ npf h3f
      refine (zr rfl ⟨lf, fs.map (fun a => (a.1, a.2.row)), rfl, ?_, (by rw [List.length_map]; omega), (fun a ha => ?_), fun D qs hD pq sq => ?_⟩)
      · rw [List.map_map]; exact SqL.of hz
      · obtain ⟨b, hb, rfl⟩ := List.mem_map.mp ha
        exact ⟨gz.tups go.2 _ _ (h3r b hb), by intro z; cases z⟩
      obtain ⟨rs, prs, srs, rfl⟩ := rows_back pq sq
      refine ⟨D, rfl, ⟨_, SqL.of upd_same⟩, ?_⟩
      have lrs : rs.length = n := by rw [prs.length_eq, lenf]
      have hDl : (upd Hz D (HO.lst (List.map (fun a => V.ref a.1) (List.map (fun a : Addr × M4 => (a.1, a.2.row)) rs)))) D = some (.lst (rs.map fun a => V.ref a.1)) := by rw [upd_same, List.map_map]; rfl
      have rD := fun a (ha : a ∈ rs) => (Tups.new (o := HO.lst (List.map (fun a => V.ref a.1) (List.map (fun a : Addr × M4 => (a.1, a.2.row)) rs))) hD) _ _ (gz.tups go.2 _ _ (h3r a (prs.mem_iff.mp ha)))
      have gD := (go.trans gz).new (o := HO.lst (List.map (fun a => V.ref a.1) (List.map (fun a : Addr × M4 => (a.1, a.2.row)) rs))) hD
      refine comp_list (K := K) (a := D) (xs := rs.map fun a => V.ref a.1) (fun i τ acc H5 => ∃ ps : List (Addr × M4), (∃ t0 t1 t2 t3, τ = [t0, t1, t2, t3, some (.int late)]) ∧ acc = (ps.map fun a => V.ref a.1) ∧ (ps.map (·.2)) = ((rs.take i).map fun a => a.2.late late) ∧ RowsAt H5 ps ∧ Same (upd Hz D (HO.lst (List.map (fun a => V.ref a.1) (List.map (fun a : Addr × M4 => (a.1, a.2.row)) rs)))) H5)
        ?_ (by rw [List.length_map]; omega) ?_ ?_ ?_
      · exact ⟨[], ⟨_, _, _, _, rfl⟩, rfl, rfl, (fun _ z => nomatch z), Same.refl _⟩
      · rintro i τ acc H6 ⟨ps, ⟨t0, t1, t2, t3, rfl⟩, rfl, eps, rws, sm⟩
        have := congrArg List.length eps
        rw [List.length_map, List.length_map, List.length_take] at this
        exact ⟨by rw [List.length_map]; omega, sm.seq (SqL.of hDl)⟩
      · rintro i x τ acc H5 C hx ⟨ps, ⟨t0, t1, t2, t3, rfl⟩, rfl, eps, rws, sm⟩ hC
        obtain ⟨r, hr, rfl⟩ := map_get hx
        have hrow := sm _ _ (rD r (List.mem_of_getElem? hr))
        refine (un4 hrow (zr rfl (zr rfl (zr rfl (zr rfl (zr2 rfl rfl (zr rfl ⟨by show 4 ≤ sizeLine; omega, fun t ht => hC _ _ _ ?_⟩)))))))
        refine ⟨ps ++ [(t, r.2.late late)], ⟨_, _, _, _, rfl⟩, by rw [List.map_append]; rfl, by rw [List.map_append, take_snoc hr, List.map_append, eps]; rfl, fun a ha => ?_, sm.trans (same_new ht)⟩
        rcases List.mem_append.mp ha with h | h
        · exact same_new ht _ _ (rws a h)
        · cases List.mem_singleton.mp h
          exact upd_same
      · rintro τ acc H6 ⟨ps, ⟨t0, t1, t2, t3, rfl⟩, rfl, eps, rws, sm⟩ lt hlt
        refine ⟨lt, zr rfl (.inl ⟨SqL.of upd_same, fun t ht => q t ps _ (((gD.same sm).new hlt).new ht) upd_same ((rws.tups (Tups.new hlt)).tups (Tups.new ht)) ?_ ?_⟩)⟩
        · rw [eps, List.length_map, List.take_length]
          exact F.good (by omega) L0 L1 prs srs
        · have := congrArg List.length eps
          rw [List.length_map, List.length_map, List.length_map, List.take_length] at this
          omega
theorem sc__law_book : FnScope ["_law_purse_here", "_law_most_walkers", "_law_most_meetings", "_law_walkers", "_law_most"] ["_law_purse_here", "_law_most_walkers", "_law_most_meetings"] (defScope s__law_book) := ⟨rfl, rfl, rfl, by decide +kernel, rfl, by decide +kernel, by decide +kernel⟩
theorem ok__law_book (T : Tx K mg a t_LONGEST_DAY) : FnOk P w K mg base CX0 4 a.a__law_book a.d__law_book ["_law_purse_here", "_law_most_walkers", "_law_most_meetings"] (spBook) := by
  have G__law_take := @ok__law_take P w _ _ base _ _ T
  have G__law_rooms := @ok__law_rooms P w _ _ base _ _ T
  have G__law_meetings := @ok__law_meetings P w _ _ base _ _ T
  refine T.F__law_book.ok sc__law_book (fun vs H Q E h => ?_) (fun cdv A outer s H vs Q E hr h => ?_)
  · obtain ⟨p, a, n, rfl, _⟩ := h; rfl
  · have nd := sc__law_book.nd
    have hu := hr.units
    obtain ⟨p, aw, n, rfl, a1, a2, hn, hp, q⟩ := h
    refine ⟨_, (@bl_out _ _ _ (@bl_c _ _ _ _ _ _ (ps_set (i := 3) nd rfl (by first | exact Or.inl rfl | exact Or.inr rfl) (@pe_op _ _ _ _ _ _ _ _ op_add pe_int (pe_call G__law_take (hr.mono (by decide)) rfl T.m__law_take T.k__law_take T.i__law_take .nil pass0 (@pa_out _ _ _ (@pa_c _ _ _ _ _ (pv 0) (@pa_c _ _ _ _ _ (pv 1) pa_n rfl) rfl))))) (@bl_c _ _ _ _ _ _ (ps_set (i := 4) nd rfl (by first | exact Or.inl rfl | exact Or.inr rfl) (pe_callB (call_min2 rfl) (by rfl) T.b_min PyProof.Rows.boot_min (@pa_out _ _ _ (@pa_c _ _ _ _ _ (pv 2) (@pa_c _ _ _ _ _ (pe_call G__law_take (hr.mono (by decide)) rfl T.m__law_take T.k__law_take T.i__law_take .nil pass0 (@pa_out _ _ _ (@pa_c _ _ _ _ _ (pv 0) (@pa_c _ _ _ _ _ (@pe_op _ _ _ _ _ _ _ _ op_add (pv 2) pe_int) pa_n rfl) rfl))) pa_n rfl) rfl)))) (@bl_c _ _ _ _ _ _ (@ps_if _ _ _ _ _ _ _ _ (@pt_cmpR _ _ _ _ _ _ _ _ op_eq (pv 3) pe_int (nomark _)) (@bl_out _ _ _ (@bl_1 _ _ _ (ps_set (i := 4) nd rfl (by first | exact Or.inl rfl | exact Or.inr rfl) pe_int))) pss_nil) (@bl_1 _ _ _ (@ps_ret _ _ _ _ (@pe_tup _ _ _ _ _ (@pa_out _ _ _ (@pa_c _ _ _ _ _ (pe_call G__law_rooms (hr.mono (by decide)) rfl T.m__law_rooms T.k__law_rooms T.i__law_rooms .nil pass0 (@pa_out _ _ _ (@pa_c _ _ _ _ _ (pv 0) (@pa_c _ _ _ _ _ (pv 3) pa_n rfl) rfl))) (@pa_c _ _ _ _ _ (pe_call G__law_meetings (hr.mono (by decide)) rfl T.m__law_meetings T.k__law_meetings T.i__law_meetings .nil pass0 (@pa_out _ _ _ (@pa_c _ _ _ _ _ (pv 0) (@pa_c _ _ _ _ _ (pv 3) (@pa_c _ _ _ _ _ (pv 4) pa_n rfl) rfl) rfl))) pa_n rfl) rfl))))))))), ?_⟩
    have line : 1001 ≤ sizeLine := by rw [sizeLine_eq]; decide
    have e200 : (2 : Int) ^ 200 > 1000 := by decide
    refine (zr rfl (zr rfl ⟨p, aw, rfl, by omega, by omega, hp, fun d H1 d0 d1 g1 => (zr2 rfl rfl ?_)⟩))
    obtain ⟨k, rfl⟩ := Int.eq_ofNat_of_zero_le d0
    refine (zr rfl (zr rfl (zr rfl (zr2 rfl rfl ⟨p, zr rfl ⟨by omega, by omega, g1.2, fun e H2 e0 e1 g2 => (zr1 rfl ?_)⟩⟩))))
    obtain ⟨m, em, hm⟩ : ∃ m : Nat, (if e < (n : Int) then e else (n : Int)) = m ∧ m ≤ n := by
      refine ⟨(if e < (n : Int) then e else (n : Int)).toNat, ?_, ?_⟩ <;> split <;> omega
    have fin : ∀ (m : Nat) t0, m ≤ n → (m = 0 ∨ 1 ≤ k) → t0 = V.int m → ∀ H2, Go p H H2 → spRooms [.ref p, .int (1 + (k : Int))] H2 (fun x H1 => spMeetings [.ref p, .int (1 + (k : Int)), t0] H1 (fun y H3 => 2 ≤ sizeLine ∧ ∀ b, H3 b = none → Q (.ref b) (upd H3 b (.tup [x, y]))) E0) E0 := by
      rintro m t0 hm hk rfl H2 g2
      refine ⟨p, 1 + k, by simp, by omega, g2.2, fun tr rooms H3 g3 h3 l3 r3 => ⟨p, _, m, rfl, by omega, by omega, by omega, g3.2, fun tm ps H4 g4 h4 r4 gd l4 => ⟨by omega, fun b hb => ?_⟩⟩⟩
      have h3' := g4.tups g3.2 _ _ h3
      have tn := Tups.new (o := HO.tup [V.ref tr, V.ref tm]) hb
      refine q b rooms tr tm ps _ ((g2.trans (g3.trans g4)).new hb) ⟨upd_same, tn _ _ h3', tn _ _ h4, r4.tups tn⟩ (by omega) (by omega) r3 ?_ (by omega)
      rw [l3]
      simpa using gd
    refine (zr rfl ⟨rfl, zr rfl (iteD (fun c => ?_) (fun c => ?_))⟩)
    · have := fin 0 _ (Nat.zero_le _) (.inl rfl) rfl H2 (g1.trans g2)
      simp only [gTup, gCons, gNil, tYes, tBM, rAppend, gSub, tAugS, ipI, rU, rIxL, rIxT, rSetL, tSeq, tAsg, tIfS, tRet, tOp, tUn, rI0, rI, tVar, tC, gName, tCall, tCB, tCons, tNil, tAndV, tOrV, tNotV, tNext, tTest, tB, tNot, tAnd, tOr, tDrop, rEq, rNe, scal, tChain, tTup, tLst, tSl, tNoPart, tPart, cxOf, L2.start, List.map_cons, List.map_nil, List.length_cons, List.length_nil, Nat.reduceAdd, Nat.reduceSub, List.replicate, List.cons_append, List.nil_append, List.append_nil, List.getElem?_cons_zero, List.getElem?_cons_succ, Option.some.injEq, exists_eq_left', exists_eq_left, exists_and_left, and_assoc, V.int.injEq, V.ty.injEq, V.str.injEq, V.bl.injEq, V.ref.injEq, List.cons.injEq, and_true, true_and, List.set_cons_zero, List.set_cons_succ]
      exact this
    · have := fin m _ hm (.inr ?_) (by rw [← em]) H2 (g1.trans g2)
      · simp only [gTup, gCons, gNil, tYes, tBM, rAppend, gSub, tAugS, ipI, rU, rIxL, rIxT, rSetL, tSeq, tAsg, tIfS, tRet, tOp, tUn, rI0, rI, tVar, tC, gName, tCall, tCB, tCons, tNil, tAndV, tOrV, tNotV, tNext, tTest, tB, tNot, tAnd, tOr, tDrop, rEq, rNe, scal, tChain, tTup, tLst, tSl, tNoPart, tPart, cxOf, L2.start, List.map_cons, List.map_nil, List.length_cons, List.length_nil, Nat.reduceAdd, Nat.reduceSub, List.replicate, List.cons_append, List.nil_append, List.append_nil, List.getElem?_cons_zero, List.getElem?_cons_succ, Option.some.injEq, exists_eq_left', exists_eq_left, exists_and_left, and_assoc, V.int.injEq, V.ty.injEq, V.str.injEq, V.bl.injEq, V.ref.injEq, List.cons.injEq, and_true, true_and, List.set_cons_zero, List.set_cons_succ]
        exact this
      · by_cases hk : k = 0
        · subst hk; exact absurd rfl c
        · omega
theorem sc_is_whole : FnScope ["thing"] ["thing"] (defScope s_is_whole) := ⟨rfl, rfl, rfl, by decide +kernel, rfl, by decide +kernel, by decide +kernel⟩
theorem ok_is_whole (T : Tx K mg a t_LONGEST_DAY) : FnOk P w K mg base CX0 1 a.a_is_whole a.d_is_whole ["thing"] (spWhole) := by
  refine T.F_is_whole.ok sc_is_whole (fun vs H Q E h => ?_) (fun cdv A outer s H vs Q E hr h => ?_)
  · obtain ⟨x, t, rfl, _⟩ := h; rfl
  · have nd := sc_is_whole.nd
    have hu := hr.units
    obtain ⟨x, t, rfl, ht, k⟩ := h
    refine ⟨_, (@bl_out _ _ _ (@bl_1 _ _ _ (@ps_ret _ _ _ _ (@pe_and _ _ _ _ _ _ _ (pe_callB (call_isinst) (by rfl) T.b_isinstance PyProof.Rows.boot_isinstance (@pa_out _ _ _ (@pa_c _ _ _ _ _ (pv 0) (@pa_c _ _ _ _ _ (pe_bltn (v := V.ty "int") rfl T.b_int PyProof.Rows.boot_int rfl) pa_n rfl) rfl))) (@pe_one _ _ _ _ _ (@pe_not _ _ _ _ (pe_callB (call_isinst) (by rfl) T.b_isinstance PyProof.Rows.boot_isinstance (@pa_out _ _ _ (@pa_c _ _ _ _ _ (pv 0) (@pa_c _ _ _ _ _ (pe_bltn (v := V.ty "bool") rfl T.b_bool PyProof.Rows.boot_bool rfl) pa_n rfl) rfl))))))))), ?_⟩
    refine (zr rfl ⟨x, t, "int", rfl, ht, .inl rfl, zr rfl ?_⟩)
    rcases tyS_six ht with rfl | rfl | rfl | rfl | rfl | rfl | rfl <;> first | exact iteB0 rfl k | exact iteB1 rfl ⟨_, rfl, x, _, "bool", rfl, ht, .inr (.inl rfl), _, rfl, k⟩
theorem sc_is_within : FnScope ["thing", "least", "most"] ["thing", "least", "most"] (defScope s_is_within) := ⟨rfl, rfl, rfl, by decide +kernel, rfl, by decide +kernel, by decide +kernel⟩
theorem ok_is_within (T : Tx K mg a t_LONGEST_DAY) : FnOk P w K mg base CX0 2 a.a_is_within a.d_is_within ["thing", "least", "most"] (spWithin) := by
  have G_is_whole := @ok_is_whole P w _ _ base _ _ T
  refine T.F_is_within.ok sc_is_within (fun vs H Q E h => ?_) (fun cdv A outer s H vs Q E hr h => ?_)
  · obtain ⟨x, t, lo, hi, rfl, _⟩ := h; rfl
  · have nd := sc_is_within.nd
    have hu := hr.units
    obtain ⟨x, t, lo, hi, rfl, ht, k⟩ := h
    refine ⟨_, (@bl_out _ _ _ (@bl_1 _ _ _ (@ps_ret _ _ _ _ (@pe_and _ _ _ _ _ _ _ (pe_call G_is_whole (hr.mono (by decide)) rfl T.m_is_whole T.k_is_whole T.i_is_whole .nil pass0 (@pa_out _ _ _ (@pa_c _ _ _ _ _ (pv 0) pa_n rfl))) (@pe_one _ _ _ _ _ (pe_chain op_le op_le (pv 1) (pv 0) (pv 2))))))), ?_⟩
    refine (zr rfl ⟨x, t, rfl, ht, zr rfl ?_⟩)
    by_cases h : t = "int"
    · subst h
      obtain ⟨i, rfl⟩ := tyS_int ht
      refine iteB1 rfl (zr rfl (zr rfl (zr2 rfl rfl (zr rfl ?_))))
      have k : Q (.bl (decide (lo ≤ i) && decide (i ≤ hi))) H := k
      by_cases h1 : lo ≤ i
      · rw [decide_eq_true h1] at k ⊢
        exact iteB1 rfl (zr rfl (zr2 rfl rfl k))
      · rw [decide_eq_false h1] at k ⊢
        exact iteB0 rfl k
    · rw [inB_no ht h] at k
      exact iteB0 (by simpa using h) k
theorem sc_is_below : FnScope ["number", "bound"] ["number", "bound"] (defScope s_is_below) := ⟨rfl, rfl, rfl, by decide +kernel, rfl, by decide +kernel, by decide +kernel⟩
theorem ok_is_below (T : Tx K mg a t_LONGEST_DAY) : FnOk P w K mg base CX0 1 a.a_is_below a.d_is_below ["number", "bound"] (spBelow) := by
  refine T.F_is_below.ok sc_is_below (fun vs H Q E h => ?_) (fun cdv A outer s H vs Q E hr h => ?_)
  · obtain ⟨o, t, rfl, _⟩ := h; rfl
  · have nd := sc_is_below.nd
    have hu := hr.units
    obtain ⟨o, t, rfl, q⟩ := h
    refine ⟨_, (@bl_out _ _ _ (@bl_1 _ _ _ (@ps_ret _ _ _ _ (@pe_and _ _ _ _ _ _ _ (pe_cmp (@pc_notN _ _ _ _ _ (pv 0))) (@pe_one _ _ _ _ _ (@pe_cmpR _ _ _ _ _ _ _ _ op_lt (pv 0) (pv 1) (nomark _))))))), ?_⟩
    cases o with
    | none => exact (zr rfl (zr rfl (iteB0 rfl q)))
    | some y => exact (zr rfl (zr rfl (iteB1 rfl (zr rfl (zr rfl (zr2 rfl rfl q))))))
theorem sc_meetings_of : FnScope ["book", "walker"] ["book", "walker"] (defScope s_meetings_of) := ⟨rfl, rfl, rfl, by decide +kernel, rfl, by decide +kernel, by decide +kernel⟩
theorem ok_meetings_of (T : Tx K mg a t_LONGEST_DAY) : FnOk P w K mg base CX0 1 a.a_meetings_of a.d_meetings_of ["book", "walker"] (spMeetingsOf) := by
  refine T.F_meetings_of.ok sc_meetings_of (fun vs H Q E h => ?_) (fun cdv A outer s H vs Q E hr h => ?_)
  · obtain ⟨b, w, _, _, _, _, rfl, _⟩ := h; rfl
  · have nd := sc_meetings_of.nd
    have hu := hr.units
    obtain ⟨b, w, rooms, tr, tm, ps, rfl, hb, hn, q⟩ := h
    refine ⟨_, (@bl_out _ _ _ (@bl_1 _ _ _ (@ps_ret _ _ _ _ (pe_comp (own := ["number", "meeting"]) (caps := [1]) rfl (show CompScope ["number", "meeting"] [1] ["book", "walker"] (defScope s_meetings_of) _ from ⟨rfl, by decide +kernel, by decide +kernel, by decide +kernel, by decide +kernel⟩) (pi_enumT rfl rfl T.b_enumerate (@pa_out _ _ _ (@pa_c _ _ _ _ _ (@pe_ix _ _ _ _ _ _ _ (ix_tup' rfl) (pv 0) pe_int (fun _ _ => rfl)) pa_n rfl))) (fun _ _ _ _ => (pg_tup' (n := 2) rfl rfl (pgs_cons (pg_name (i := 0) (show List.Nodup (["number", "meeting", "walker"] : List Str) from by decide +kernel) rfl (by first | exact Or.inl rfl | exact Or.inr rfl)) (pgs_cons (pg_name (i := 1) (show List.Nodup (["number", "meeting", "walker"] : List Str) from by decide +kernel) rfl (by first | exact Or.inl rfl | exact Or.inr rfl)) pgs_nil)))) (fun _ _ _ _ => pts_one (@pt_cmpR _ _ _ _ _ _ _ _ (op_in_seq' rfl) (pv 2) (@pe_slice _ _ _ _ _ _ _ _ _ _ (sl_tup' rfl) (pv 1) po_none (@po_some _ _ _ pe_int)) rfl)) (fun _ _ _ _ => (pv 0)))))), ?_⟩
    refine (zr rfl (ixt hb.book rfl ⟨tm, rfl, ⟨_, SqT.of hb.meets⟩, ?_⟩))
    refine comp_enumT (K := K) (a := tm) (xs := ps.map fun a => V.ref a.1) (fun i τ acc H5 => (∃ t0 t1, τ = [t0, t1, some (.int w)]) ∧ acc = (numsTo (ps.map (·.2)) w i).map V.int ∧ Same H H5)
      ?_ (by rw [List.length_map]; omega) ?_ ?_ ?_
    · exact ⟨⟨_, _, rfl⟩, rfl, Same.refl _⟩
    · rintro i τ acc H5 ⟨⟨t0, t1, rfl⟩, rfl, sm⟩
      exact ⟨by rw [List.length_map]; exact numsTo_len _ _ _, SqT.of (sm _ _ hb.meets)⟩
    · rintro i x q' τ acc H5 C hx hq ⟨⟨t0, t1, rfl⟩, rfl, sm⟩ hC
      obtain ⟨r, hr, rfl⟩ := map_get hx
      have hrow : upd H5 q' (.tup [.int i, V.ref r.1]) r.1 = some (.tup r.2.vs) := same_new hq _ _ (sm _ _ (hb.rows r (List.mem_of_getElem? hr)))
      have hm : (ps.map (·.2))[i]? = some r.2 := by rw [List.getElem?_map, hr]; rfl
      refine (un2 upd_same ?_)
      simp only [gTup, gCons, gNil, tYes, tBM, rAppend, gSub, tAugS, ipI, rU, rIxL, rIxT, rSetL, tSeq, tAsg, tIfS, tRet, tOp, tUn, rI0, rI, tVar, tC, gName, tCall, tCB, tCons, tNil, tAndV, tOrV, tNotV, tNext, tTest, tB, tNot, tAnd, tOr, tDrop, rEq, rNe, scal, tChain, tTup, tLst, tSl, tNoPart, tPart, cxOf, L2.start, List.map_cons, List.map_nil, List.length_cons, List.length_nil, Nat.reduceAdd, Nat.reduceSub, List.replicate, List.cons_append, List.nil_append, List.append_nil, List.getElem?_cons_zero, List.getElem?_cons_succ, Option.some.injEq, exists_eq_left', exists_eq_left, exists_and_left, and_assoc, V.int.injEq, V.ty.injEq, V.str.injEq, V.bl.injEq, V.ref.injEq, List.cons.injEq, and_true, true_and, List.set_cons_zero, List.set_cons_succ]
      refine ⟨r.1, zr rfl ⟨SqT.of hrow, (by show ¬ (HT.sIx 4 0 none = 0 ∧ HT.sIx 4 4 (some 2) = 4); decide), fun p2 hp2 => ⟨p2, [.int r.2.lo, .int r.2.hi], rfl, .inr (SqT.of upd_same), rfl, rfl, zr rfl (iteB (fun c => hC _ _ _ ?_) (fun c => hC _ _ _ ?_))⟩⟩⟩
      · exact ⟨⟨_, _, rfl⟩, by rw [numsTo_yes hm (inV_two.symm.trans c), List.map_append]; rfl, (sm.trans (same_new hq)).trans (same_new hp2)⟩
      · exact ⟨⟨_, _, rfl⟩, by rw [numsTo_no hm (inV_two.symm.trans c)], (sm.trans (same_new hq)).trans (same_new hp2)⟩
    · rintro τ acc H5 ⟨⟨t0, t1, rfl⟩, rfl, sm⟩ l hl
      rw [List.length_map] at *
      exact q l _ (sm.free hl) (sm.trans (same_new hl)) upd_same
theorem sc_ways : FnScope ["book", "told", "number", "one", "other", "when", "many"] ["book"] (defScope s_ways) := ⟨rfl, rfl, rfl, by decide +kernel, rfl, by decide +kernel, by decide +kernel⟩
theorem ok_ways (T : Tx K mg a t_LONGEST_DAY) : FnOk P w K mg base CX0 1 a.a_ways a.d_ways ["book"] (spWays) := by
  refine T.F_ways.ok sc_ways (fun vs H Q E h => ?_) (fun cdv A outer s H vs Q E hr h => ?_)
  · obtain ⟨b, _, _, _, _, rfl, _⟩ := h; rfl
  · have nd := sc_ways.nd
    have hu := hr.units
    obtain ⟨b, rooms, tr, tm, ps, rfl, hb, gd, q⟩ := h
    refine ⟨_, (@bl_out _ _ _ (@bl_c _ _ _ _ _ _ (ps_set (i := 1) nd rfl (by first | exact Or.inl rfl | exact Or.inr rfl) (@pe_lst _ _ _ _ pa_nil)) (@bl_c _ _ _ _ _ _ (ps_for PassesOwn.never rfl (pi_enumT rfl rfl T.b_enumerate (@pa_out _ _ _ (@pa_c _ _ _ _ _ (@pe_ix _ _ _ _ _ _ _ (ix_tup' rfl) (pv 0) pe_int (fun _ _ => rfl)) pa_n rfl))) (pg_tup' (n := 2) rfl rfl (pgs_cons (pg_name (i := 2) nd rfl (by first | exact Or.inl rfl | exact Or.inr rfl)) (pgs_cons (pg_tup' (n := 4) rfl rfl (pgs_cons (pg_name (i := 3) nd rfl (by first | exact Or.inl rfl | exact Or.inr rfl)) (pgs_cons (pg_name (i := 4) nd rfl (by first | exact Or.inl rfl | exact Or.inr rfl)) (pgs_cons (pg_name (i := 5) nd rfl (by first | exact Or.inl rfl | exact Or.inr rfl)) (pgs_cons (pg_name (i := 6) nd rfl (by first | exact Or.inl rfl | exact Or.inr rfl)) pgs_nil))))) pgs_nil))) (@bl_out _ _ _ (@bl_c _ _ _ _ _ _ (ps_expr (pe_bm PySem.F.plainAttrs_list PySem.F.slot_list_append PySem.F.type_list_append mt_append (pv 1) (@pa_out _ _ _ (@pa_c _ _ _ _ _ (@pe_tup _ _ _ _ _ (@pa_out _ _ _ (@pa_c _ _ _ _ _ (pv 2) (@pa_c _ _ _ _ _ (pv 3) (@pa_c _ _ _ _ _ (pv 4) (@pa_c _ _ _ _ _ (pv 5) pa_n rfl) rfl) rfl) rfl))) pa_n rfl)))) (@bl_1 _ _ _ (ps_expr (pe_bm PySem.F.plainAttrs_list PySem.F.slot_list_append PySem.F.type_list_append mt_append (pv 1) (@pa_out _ _ _ (@pa_c _ _ _ _ _ (@pe_tup _ _ _ _ _ (@pa_out _ _ _ (@pa_c _ _ _ _ _ (pv 2) (@pa_c _ _ _ _ _ (pv 4) (@pa_c _ _ _ _ _ (pv 3) (@pa_c _ _ _ _ _ (pv 5) pa_n rfl) rfl) rfl) rfl))) pa_n rfl)))))))) (@bl_1 _ _ _ (@ps_ret _ _ _ _ (pv 1)))))), ?_⟩
    have line := line9
    have l60 := gd.len
    refine ⟨Nat.zero_le _, fun l hl => ?_⟩
    have hb1 := hb.same (same_new (o := HO.lst []) hl)
    refine (zr rfl (ixt hb1.book rfl ⟨tm, rfl, ⟨_, SqT.of hb1.meets⟩, ?_⟩))
    refine for_enumT (K := K) (a := tm) (xs := ps.map fun a => V.ref a.1) (fun i σ H4 => (∃ v2 v3 v4 v5 v6, σ = [some (.ref b), some (.ref l), v2, v3, v4, v5, v6]) ∧ Same H H4 ∧ ∃ ws : List (Addr × W4), H4 l = some (.lst (ws.map fun a => V.ref a.1)) ∧ (∀ a ∈ ws, H4 a.1 = some (.tup a.2.vs)) ∧ ws.map (·.2) = waysN (ps.map (·.2)) i ∧ ws.length = 2 * i)
      ⟨⟨_, _, _, _, _, rfl⟩, same_new hl, [], upd_same, (fun _ z => nomatch z), rfl, rfl⟩ (fun i σ H4 _ h4 => SqT.of ((hb.same h4.2.1).meets)) ?_ ?_
    · rintro i x q' σ H4 hx hq ⟨⟨v2, v3, v4, v5, v6, rfl⟩, sm, ws, h4, hr, ew, lw⟩
      obtain ⟨r, hr1, rfl⟩ := map_get hx
      have hi : i < ps.length := (List.getElem?_eq_some_iff.mp hr1).1
      have hm : (ps.map (·.2))[i]? = some r.2 := by rw [List.getElem?_map, hr1]; rfl
      obtain ⟨a1, a2, a3, a4, a5, _⟩ := gd.at (List.mem_of_getElem? hr1)
      have sm1 := sm.trans (same_new (o := HO.tup [.int i, .ref r.1]) hq)
      have hrow := (hb.same sm1).rows r (List.mem_of_getElem? hr1)
      have h5 := (same_new (o := HO.tup [.int i, .ref r.1]) hq) _ _ h4
      refine ⟨q', zr rfl ⟨SqT.of upd_same, rfl, zr1 rfl (zr1 rfl (un4 hrow ⟨rfl, ?_⟩))⟩⟩
      refine (zr rfl ⟨.inl ⟨rfl, _, SqL.of h5⟩, zr rfl (zr rfl (zr rfl (zr rfl ⟨by show 4 ≤ sizeLine; omega, fun t1 ht1 => ⟨l, zr2 rfl rfl ⟨same_new ht1 _ _ h5, by rw [List.length_map]; omega, ?_⟩⟩⟩)))⟩)
      have n1 : t1 ≠ l := (ne_of_none h5 ht1).symm
      refine (zr rfl ⟨.inl ⟨rfl, _, SqL.of upd_same⟩, zr rfl (zr rfl (zr rfl (zr rfl ⟨by show 4 ≤ sizeLine; omega, fun t2 ht2 => ⟨l, zr2 rfl rfl ⟨same_new ht2 _ _ upd_same, by rw [List.length_append, List.length_map]; show ws.length + 1 < sizeLine; omega, ?_⟩⟩⟩)))⟩)
      have n2 : t2 ≠ l := fun z => by rw [z, upd_same] at ht2; cases ht2
      have n12 : t1 ≠ t2 := fun z => by rw [← z, upd_ne n1, upd_same] at ht2; cases ht2
      have e1 : (r.2.lo.toNat : Int) = r.2.lo := Int.toNat_of_nonneg a1
      have e2 : (r.2.hi.toNat : Int) = r.2.hi := Int.toNat_of_nonneg (by omega)
      have sm2 : Same H (upd (upd (upd (upd (upd H4 q' (.tup [.int i, .ref r.1])) t1 (.tup [.int i, .int r.2.lo, .int r.2.hi, .int r.2.t])) l (.lst ((ws.map fun a => V.ref a.1) ++ [.ref t1]))) t2 (.tup [.int i, .int r.2.hi, .int r.2.lo, .int r.2.t])) l (.lst ((ws.map fun a => V.ref a.1) ++ [.ref t1] ++ [.ref t2]))) :=
        Same.put hl ((Same.put hl (sm1.trans (same_new ht1))).trans (same_new ht2))
      refine ⟨⟨_, _, _, _, _, rfl⟩, sm2, ws ++ [(t1, ⟨i, ⟨r.2.lo.toNat, r.2.hi.toNat, r.2.t⟩⟩), (t2, ⟨i, ⟨r.2.hi.toNat, r.2.lo.toNat, r.2.t⟩⟩)], ?_, fun a ha => ?_, ?_, ?_⟩
      · rw [upd_same, List.map_append, List.append_assoc]; rfl
      · rcases List.mem_append.mp ha with h | h
        · have := hr a h
          have na : a.1 ≠ l := ne_of this h4 (by intro z; cases z)
          have b1 := same_new (o := HO.tup [.int i, .ref r.1]) hq _ _ this
          have b2 := same_new (o := HO.tup [.int i, .int r.2.lo, .int r.2.hi, .int r.2.t]) ht1 _ _ b1
          rw [upd_ne na]
          exact same_new ht2 _ _ (by rw [upd_ne na]; exact b2)
        · simp only [List.mem_cons, List.not_mem_nil, or_false] at h
          rcases h with rfl | rfl
          · rw [upd_ne n1]
            refine same_new ht2 _ _ ?_
            rw [upd_ne n1, upd_same]
            show _ = some (HO.tup [.int i, .int (r.2.lo.toNat : Int), .int (r.2.hi.toNat : Int), .int r.2.t])
            rw [e1, e2]
          · rw [upd_ne n2, upd_same]
            show _ = some (HO.tup [.int i, .int (r.2.hi.toNat : Int), .int (r.2.lo.toNat : Int), .int r.2.t])
            rw [e1, e2]
      · rw [List.map_append, ew, waysN_succ hm]; rfl
      · rw [List.length_append, lw]; show 2 * i + 2 = _; omega
    · rintro σ H4 ⟨⟨v2, v3, v4, v5, v6, rfl⟩, sm, ws, h4, hr, ew, lw⟩
      rw [List.length_map] at ew
      exact (zr rfl (q l ws _ hl sm h4 hr ew))
theorem sc_lone_row : FnScope ["book", "walker", "number"] ["book", "walker", "number"] (defScope s_lone_row) := ⟨rfl, rfl, rfl, by decide +kernel, rfl, by decide +kernel, by decide +kernel⟩
theorem ok_lone_row (T : Tx K mg a t_LONGEST_DAY) : FnOk P w K mg base CX0 1 a.a_lone_row a.d_lone_row ["book", "walker", "number"] (spLone) := by
  refine T.F_lone_row.ok sc_lone_row (fun vs H Q E h => ?_) (fun cdv A outer s H vs Q E hr h => ?_)
  · obtain ⟨b, k, x, _, _, _, _, rfl, _⟩ := h; rfl
  · have nd := sc_lone_row.nd
    have hu := hr.units
    obtain ⟨b, k, x, rooms, tr, tm, ps, rfl, hb, hn, q⟩ := h
    refine ⟨_, (@bl_out _ _ _ (@bl_1 _ _ _ (@ps_ret _ _ _ _ (pe_comp (own := ["other"]) (caps := [2, 1]) rfl (show CompScope ["other"] [2, 1] ["book", "walker", "number"] (defScope s_lone_row) _ from ⟨rfl, by decide +kernel, by decide +kernel, by decide +kernel, by decide +kernel⟩) (pi_range1 rfl T.b_range (@pa_out _ _ _ (@pa_c _ _ _ _ _ (pe_callB (call_len_seq' rfl) (by rfl) T.b_len PySem.boot_len (@pa_out _ _ _ (@pa_c _ _ _ _ _ (@pe_ix _ _ _ _ _ _ _ (ix_tup' rfl) (pv 0) pe_int (fun _ _ => rfl)) pa_n rfl))) pa_n rfl))) (fun _ _ _ _ => (pg_name (i := 0) (show List.Nodup (["other", "number", "walker"] : List Str) from by decide +kernel) rfl (by first | exact Or.inl rfl | exact Or.inr rfl))) (fun _ _ _ _ => pts_nil) (fun _ _ _ _ => (@pe_ifExp _ _ _ _ _ _ _ _ (@pt_cmpR _ _ _ _ _ _ _ _ op_eq (pv 0) (pv 2) (nomark _)) (pv 1) pe_non)))))), ?_⟩
    refine (zr rfl (ixt hb.book rfl ⟨tr, zr rfl ⟨.inr (SqT.of hb.rooms), zr rfl ⟨by rw [List.length_map]; omega, by rw [List.length_map]; omega, ?_⟩⟩⟩))
    refine comp_range (lo := 0) (m := (rooms.map V.int).length) (fun i τ acc H5 => (∃ t0, τ = [t0, some (.int x), some (.int k)]) ∧ acc = (rep i (lone k x)).map oV ∧ H5 = H) ?_ (by rw [List.length_map]; omega) ?_ ?_ ?_
    · exact ⟨⟨_, rfl⟩, rfl, rfl⟩
    · rintro i τ acc H5 ⟨⟨t0, rfl⟩, rfl, rfl⟩
      rw [List.length_map, rep_len]; exact Nat.le_refl _
    · rintro i τ acc H5 C hi ⟨⟨t0, rfl⟩, rfl, rfl⟩ hC
      have snoc : ∀ v, oV (lone k x i) = v → (rep i (lone k x)).map oV ++ [v] = (rep (i + 1) (lone k x)).map oV := fun v e => by
        unfold rep
        rw [List.range_succ, List.map_append, List.map_append, ← e]; rfl
      refine (zr rfl (zr rfl ⟨rfl, zr rfl (iteD (fun c => (zr rfl (hC _ _ _ ⟨⟨_, rfl⟩, snoc _ ?_, rfl⟩))) (fun c => hC _ _ _ ⟨⟨_, rfl⟩, snoc _ ?_, rfl⟩))⟩))
      · have : i = k := by have := V.int.inj c; omega
        unfold lone
        rw [if_pos this]; rfl
      · have : i ≠ k := fun z => c (by rw [z]; simp)
        unfold lone
        rw [if_neg this]; rfl
    · rintro τ acc H5 ⟨⟨t0, rfl⟩, rfl, rfl⟩ l hl
      rw [List.length_map]
      exact q l _ hl (same_new hl) upd_same
theorem sc_need_day : FnScope ["book", "day"] ["book", "day"] (defScope s_need_day) := ⟨rfl, rfl, rfl, by decide +kernel, rfl, by decide +kernel, by decide +kernel⟩
theorem ok_need_day (T : Tx K mg a t_LONGEST_DAY) : FnOk P w K mg base (CXE P w) 3 a.a_need_day a.d_need_day ["book", "day"] (spNeedDX K a.c_NoDay) := by
  have G_is_within := @ok_is_within P w _ _ base _ _ T
  refine T.F_need_day.okE sc_need_day (fun vs H Q E h => ?_) (fun cdv A outer s H vs Q E hr h => ?_)
  · rcases h with ⟨b, day, _, _, _, _, rfl, _⟩ | ⟨_, _, _, _, _, _, rfl, _⟩ <;> rfl
  · have nd := sc_need_day.nd
    have hu := hr.units
    skip
    refine ⟨_, (@bl_out _ _ _ (@bl_1 _ _ _ (@ps_if _ _ _ _ _ _ _ _ (@PW.pt _ _ _ (@pw_or _ _ _ _ _ _ _ (@pt_not _ _ _ _ (pt_val (pe_call G_is_within (hr.mono (by decide)) rfl T.m_is_within T.k_is_within T.i_is_within .nil pass0 (@pa_out _ _ _ (@pa_c _ _ _ _ _ (pv 1) (@pa_c _ _ _ _ _ pe_int (@pa_c _ _ _ _ _ (pe_glob (v := V.int 1000000) rfl T.c_LONGEST_DAY ⟨_, rfl⟩) pa_n rfl) rfl) rfl))))) (@pw_or1 _ _ _ _ (pt_val (pe_callB (call_any rfl rfl) (by rfl) T.b_any PyProof.Rows.boot_any (@pa_out _ _ _ (@pa_c _ _ _ _ _ (pe_comp (own := ["meeting"]) (caps := [1]) rfl (show CompScope ["meeting"] [1] ["book", "day"] (defScope s_need_day) _ from ⟨rfl, by decide +kernel, by decide +kernel, by decide +kernel, by decide +kernel⟩) (@pi_tup'' _ _ _ _ _ rfl (@pe_ix _ _ _ _ _ _ _ (ix_tup' rfl) (pv 0) pe_int (fun _ _ => rfl))) (fun _ _ _ _ => (pg_name (i := 0) (show List.Nodup (["meeting", "day"] : List Str) from by decide +kernel) rfl (by first | exact Or.inl rfl | exact Or.inr rfl))) (fun _ _ _ _ => pts_nil) (fun _ _ _ _ => (@pe_cmpR _ _ _ _ _ _ _ _ op_gt (@pe_ix _ _ _ _ _ _ _ (ix_tup' rfl) (pv 0) pe_int (fun _ _ => rfl)) (pv 1) (nomark _)))) pa_n rfl))))))) (@bl_out _ _ _ (@bl_1 _ _ _ (ps_raise rfl rfl rfl rfl rfl T.m_NoDay T.x_NoDay))) pss_nil))), ?_⟩
    rcases h with ⟨b, day, rooms, tr, tm, ps, rfl, hb, l9, d1, d6, hd, q⟩ | ⟨b, x, rooms, tr, tm, ps, rfl, ⟨hb, gd, ⟨ty, ht⟩, _, bad⟩, q⟩
    · skip
      refine (zr rfl ⟨.int day, "int", 1, 1000000, rfl, rfl, zr rfl (iteB0 (by unfold inB; simp [d1, d6]) ?_)⟩)
      refine (zr rfl (ixt hb.book rfl ⟨tm, rfl, ⟨_, SqT.of hb.meets⟩, ?_⟩))
      refine comp_tup (K := K) (a := tm) (xs := ps.map fun a => V.ref a.1) (fun i τ acc H5 => (∃ t0, τ = [t0, some (.int day)]) ∧ acc = (List.replicate i false).map V.bl ∧ H5 = H) ?_ (by rw [List.length_map]; exact l9) ?_ ?_ ?_
      · exact ⟨⟨_, rfl⟩, rfl, rfl⟩
      · rintro i τ acc H5 ⟨⟨t0, rfl⟩, rfl, rfl⟩
        exact ⟨by simp, SqT.of hb.meets⟩
      · rintro i x τ acc H5 C hx ⟨⟨t0, rfl⟩, rfl, rfl⟩ hC
        obtain ⟨r, hr, rfl⟩ := map_get hx
        have rm := List.mem_of_getElem? hr
        have hrow := hb.rows r rm
        have le := hd r.2 (List.mem_map.mpr ⟨r, rm, rfl⟩)
        refine (zr rfl (ixt hrow rfl (zr rfl (zr2 rfl rfl (hC _ _ _ ⟨⟨_, rfl⟩, ?_, rfl⟩)))))
        show List.map V.bl (List.replicate i false) ++ [V.bl (decide (day < r.2.t))] = _
        rw [decide_eq_false (by omega), List.replicate_succ', List.map_append]; rfl
      · rintro τ acc H5 ⟨⟨t0, rfl⟩, rfl, rfl⟩ lc hlc
        refine ⟨lc, zr rfl ⟨SqL.of upd_same, zr rfl (iteB0 (by simp) ?_)⟩⟩
        exact q _ (same_new hlc)
    · have n60 := gd.len
      refine (zr rfl ⟨x, ty, 1, 1000000, rfl, ht, zr rfl ?_⟩)
      cases c : inB 1 1000000 x with
      | false => exact iteB1 rfl (iteB1 rfl (q _ (Same.refl _)))
      | true =>
        obtain ⟨d, m, rfl, d1, d6, hm, lt⟩ : ∃ d m, x = .int d ∧ 1 ≤ d ∧ d ≤ 1000000 ∧ m ∈ ps.map (·.2) ∧ d < m.t := by
          rcases bad with z | z
          · rw [c] at z; cases z
          · exact z
        refine iteB0 rfl ?_
        refine (zr rfl (ixt hb.book rfl ⟨tm, rfl, ⟨_, SqT.of hb.meets⟩, ?_⟩))
        refine comp_tup (K := K) (a := tm) (xs := ps.map fun a => V.ref a.1) (fun i τ acc H5 => (∃ t0, τ = [t0, some (.int d)]) ∧ acc = ((ps.take i).map fun r => decide (d < r.2.t)).map V.bl ∧ H5 = H) ?_ (by rw [List.length_map]; omega) ?_ ?_ ?_
        · exact ⟨⟨_, rfl⟩, rfl, rfl⟩
        · rintro i τ acc H5 ⟨⟨t0, rfl⟩, rfl, rfl⟩
          exact ⟨by rw [List.length_map, List.length_map, List.length_take]; omega, SqT.of hb.meets⟩
        · rintro i v τ acc H5 C hx ⟨⟨t0, rfl⟩, rfl, rfl⟩ hC
          obtain ⟨r, hr, rfl⟩ := map_get hx
          have hrow := hb.rows r (List.mem_of_getElem? hr)
          exact (zr rfl (ixt hrow rfl (zr rfl (zr2 rfl rfl (hC _ _ _ ⟨⟨_, rfl⟩, by rw [take_snoc hr, List.map_append, List.map_append]; rfl, rfl⟩)))))
        · rintro τ acc H5 ⟨⟨t0, rfl⟩, rfl, rfl⟩ lc hlc
          rw [List.length_map, List.take_length]
          refine ⟨lc, zr rfl ⟨SqL.of upd_same, zr rfl (iteB1 ?_ (q _ (same_new hlc)))⟩⟩
          obtain ⟨r, hr, rfl⟩ := List.mem_map.mp hm
          rw [List.any_eq_true]
          exact ⟨true, List.mem_map.mpr ⟨r, hr, decide_eq_true lt⟩, rfl⟩
theorem sc_first_givings_again : FnScope ["book", "day", "sender", "since", "times", "came", "first", "turn", "number", "giver", "other", "when", "time"] ["book", "day", "sender", "since"] (defScope s_first_givings_again) := ⟨rfl, rfl, rfl, by decide +kernel, rfl, by decide +kernel, by decide +kernel⟩
theorem ok_first_givings_again (T : Tx K mg a t_LONGEST_DAY) : FnOk P w K mg base CX0 2 a.a_first_givings_again a.d_first_givings_again ["book", "day", "sender", "since"] (spAg2) := by
  have G_is_below := @ok_is_below P w _ _ base _ _ T
  have G_ways := @ok_ways P w _ _ base _ _ T
  have G_lone_row := @ok_lone_row P w _ _ base _ _ T
  refine T.F_first_givings_again.ok sc_first_givings_again (fun vs H Q E h => ?_) (fun cdv A outer s H vs Q E hr h => ?_)
  · obtain ⟨b, day, k, x, _, _, _, _, rfl, _⟩ := h; rfl
  · have nd := sc_first_givings_again.nd
    have hu := hr.units
    obtain ⟨b, day, k, x, rooms, tr, tm, ps, rfl, hb, hn, gd, d1, d9, x0, x9, q⟩ := h
    refine ⟨_, (@bl_out _ _ _ (@bl_c _ _ _ _ _ _ (ps_set (i := 4) nd rfl (by first | exact Or.inl rfl | exact Or.inr rfl) (pe_call G_lone_row (hr.mono (by decide)) rfl T.m_lone_row T.k_lone_row T.i_lone_row .nil pass0 (@pa_out _ _ _ (@pa_c _ _ _ _ _ (pv 0) (@pa_c _ _ _ _ _ (pv 2) (@pa_c _ _ _ _ _ (pv 3) pa_n rfl) rfl) rfl)))) (@bl_c _ _ _ _ _ _ (ps_set (i := 5) nd rfl (by first | exact Or.inl rfl | exact Or.inr rfl) pe_dnewK) (@bl_c _ _ _ _ _ _ (ps_set (i := 6) nd rfl (by first | exact Or.inl rfl | exact Or.inr rfl) (@pe_op _ _ _ _ _ _ _ _ op_fdivB (pv 3) (pv 1))) (@bl_c _ _ _ _ _ _ (ps_for PassesOwn.never rfl (pi_range2 rfl T.b_range (@pa_out _ _ _ (@pa_c _ _ _ _ _ (pv 6) (@pa_c _ _ _ _ _ (@pe_op _ _ _ _ _ _ _ _ op_add (pv 6) (pe_callB (call_len_seq' rfl) (by rfl) T.b_len PySem.boot_len (@pa_out _ _ _ (@pa_c _ _ _ _ _ (pv 4) pa_n rfl)))) pa_n rfl) rfl))) (pg_name (i := 7) nd rfl (by first | exact Or.inl rfl | exact Or.inr rfl)) (@bl_out _ _ _ (@bl_1 _ _ _ (ps_for PassesOwn.never rfl (@pi_list' _ _ _ _ _ rfl (pe_call G_ways (hr.mono (by decide)) rfl T.m_ways T.k_ways T.i_ways .nil pass0 (@pa_out _ _ _ (@pa_c _ _ _ _ _ (pv 0) pa_n rfl)))) (pg_tup' (n := 4) rfl rfl (pgs_cons (pg_name (i := 8) nd rfl (by first | exact Or.inl rfl | exact Or.inr rfl)) (pgs_cons (pg_name (i := 9) nd rfl (by first | exact Or.inl rfl | exact Or.inr rfl)) (pgs_cons (pg_name (i := 10) nd rfl (by first | exact Or.inl rfl | exact Or.inr rfl)) (pgs_cons (pg_name (i := 11) nd rfl (by first | exact Or.inl rfl | exact Or.inr rfl)) pgs_nil))))) (@bl_out _ _ _ (@bl_c _ _ _ _ _ _ (ps_set (i := 12) nd rfl (by first | exact Or.inl rfl | exact Or.inr rfl) (@pe_op _ _ _ _ _ _ _ _ op_add (pv 11) (@pe_op _ _ _ _ _ _ _ _ op_mul (pv 7) (pv 1)))) (@bl_1 _ _ _ (@ps_if _ _ _ _ _ _ _ _ (@PW.pt _ _ _ (@pw_and _ _ _ _ _ _ _ (pt_cmp (@pc_isN _ _ _ _ _ (@pe_ix _ _ _ _ _ _ _ (ix_list' rfl) (pv 4) (pv 10) (fun _ _ => rfl)))) (@pw_and1 _ _ _ _ (pt_val (pe_call G_is_below (hr.mono (by decide)) rfl T.m_is_below T.k_is_below T.i_is_below .nil pass0 (@pa_out _ _ _ (@pa_c _ _ _ _ _ (@pe_ix _ _ _ _ _ _ _ (ix_list' rfl) (pv 4) (pv 9) (fun _ _ => rfl)) (@pa_c _ _ _ _ _ (pv 12) pa_n rfl) rfl))))))) (@bl_out _ _ _ (@bl_c _ _ _ _ _ _ (ps_asg (pv 12) (pg_sub (pv 4) (pv 10) set_list)) (@bl_1 _ _ _ (ps_dput (Nat.lt_of_le_of_lt (Nat.add_le_add_left (by decide) _) hu) (pv 5) (pv 10) (@pe_tup _ _ _ _ _ (@pa_out _ _ _ (@pa_c _ _ _ _ _ (pv 8) (@pa_c _ _ _ _ _ (pv 7) (@pa_c _ _ _ _ _ (pv 9) pa_n rfl) rfl) rfl))) rfl)))) pss_nil)))))))) (@bl_1 _ _ _ (@ps_ret _ _ _ _ (@pe_tup _ _ _ _ _ (@pa_out _ _ _ (@pa_c _ _ _ _ _ (pv 4) (@pa_c _ _ _ _ _ (pv 5) pa_n rfl) rfl)))))))))), ?_⟩
    have line : 300000 ≤ sizeLine := by rw [sizeLine_eq]; decide
    have e200 : (2 : Int) ^ 200 > 10000000000 := by decide
    have l60 := gd.len
    refine (zr rfl (zr rfl (zr rfl (ex7 b k x rooms tr tm ps ⟨rfl, hb, hn, fun l H1 hl sm1 h1 => ?_⟩))))
    refine fun d hd => ?_
    have ndl : d ≠ l := (ne_of_none h1 hd).symm
    have smd := sm1.trans (same_new (o := HO.dK []) hd)
    have hfd : H d = none := sm1.free hd
    have h1' := same_new (o := HO.dK []) hd _ _ h1
    have hd' := (upd_same (H := H1) (a := d) (o := HO.dK []))
    generalize upd H1 d (HO.dK []) = H1' at smd h1' hd' ⊢
    have f0 : 0 ≤ x / day := Int.ediv_nonneg x0 (by omega)
    have f9 : x / day ≤ x := Int.ediv_le_self _ x0
    refine (zr rfl (zr rfl (zr2 rfl rfl ⟨⟨by omega, by omega⟩, ?_⟩)))
    have en : (x / day + (((rep rooms.length (lone k x)).map oV).length : Int) - x / day).toNat = rooms.length := by rw [List.length_map, rep_len]; omega
    refine (zr rfl (zr rfl (zr rfl ⟨l, zr rfl ⟨.inl (SqL.of h1'), zr2 rfl rfl (zr1 rfl ⟨⟨by omega, by omega, by omega, by rw [List.length_map, rep_len]; omega⟩, ?_⟩)⟩⟩)))
    rw [en]
    refine for_range (lo := (x / day)) (n := rooms.length) (fun i σ H4 => (∃ v7 v8 v9 v10 v11 v12, σ = [some (.ref b), some (.int day), some (.int k), some (.int x), some (.ref l), some (.ref d), some (.int (x / day)), v7, v8, v9, v10, v11, v12]) ∧ Same H H4 ∧ H4 l = some (.lst ((rep rooms.length (agF (ps.map (·.2)) day (x / day) (lone k x) i)).map oV)) ∧ (∃ kvs, H4 d = some (.dK kvs) ∧ kvs.length ≤ 120 * i ∧ CameD (ps.map (·.2)) day k (agF (ps.map (·.2)) day (x / day) (lone k x) i) kvs H4))
      ?_ ?_ ?_
    · exact ⟨⟨_, _, _, _, _, _, rfl⟩, smd, h1', [], hd', Nat.le_refl _, fun o t h => .inl (by have h : lone k x o = some t := h; unfold lone at h; split at h; assumption; cases h)⟩
    · rintro i σ H2' hi ⟨⟨v7, v8, v9, v10, v11, v12, rfl⟩, sm2', h1', kvs0, hd', lk0, cm0⟩
      refine (zr rfl (ex5 b rooms tr tm ps ⟨rfl, hb.same sm2', gd, fun lw ws H2 hlw sm2 h2 hr ew => ?_⟩))
      have nwl : lw ≠ l := (ne_of_none h1' hlw).symm
      have nwd : lw ≠ d := (ne_of_none hd' hlw).symm
      have h1' := sm2 _ _ h1'
      have hd' := sm2 _ _ hd'
      have cm0 := cm0.tups (Tups.same sm2)
      have eall : (ws.map (·.2)).map (·.w) = ways2 (ps.map (·.2)) := by
        have := waysN_all (ps.map (·.2))
        rw [List.length_map] at this
        rw [ew, this]
      have lws : ws.length = 2 * ps.length := by
        have := congrArg List.length eall
        rw [List.length_map, List.length_map, ways2_len, List.length_map] at this
        exact this
      refine ⟨lw, rfl, ⟨_, SqL.of h2⟩, ?_⟩
      refine for_list (K := K) (a := lw) (xs := (ws.map fun a => V.ref a.1)) (fun j σ H4 => (∃ v8 v9 v10 v11 v12, σ = [some (.ref b), some (.int day), some (.int k), some (.int x), some (.ref l), some (.ref d), some (.int (x / day)), some (.int ((x / day) + i)), v8, v9, v10, v11, v12]) ∧ Same H H4 ∧ H4 l = some (.lst ((rep rooms.length (((ws.take j).map (fun a => a.2.w.late (((x / day) + i) * day))).foldl fstep (agF (ps.map (·.2)) day (x / day) (lone k x) i))).map oV)) ∧ (∃ kvs, H4 d = some (.dK kvs) ∧ kvs.length ≤ 120 * i + j ∧ CameD (ps.map (·.2)) day k (((ws.take j).map (fun a => a.2.w.late (((x / day) + i) * day))).foldl fstep (agF (ps.map (·.2)) day (x / day) (lone k x) i)) kvs H4) ∧ (∀ b u, b ≠ l → b ≠ d → H2 b = some u → H4 b = some u))
        ?_ ?_ ?_ ?_
      · exact ⟨⟨_, _, _, _, _, rfl⟩, sm2'.trans sm2, h1', ⟨kvs0, hd', by omega, cm0⟩, fun _ _ _ _ e => e⟩
      · rintro j σ H4 _ ⟨_, _, _, _, kp⟩
        exact SqL.of (kp lw _ nwl nwd h2)
      · rintro j y σ H4 hy ⟨⟨v8, v9, v10, v11, v12, rfl⟩, sm4, h4, ⟨kvs, h4d, lk, cm⟩, kp⟩
        obtain ⟨r, hr1, rfl⟩ := map_get hy
        have hj : j < ws.length := (List.getElem?_eq_some_iff.mp hr1).1
        have rm : r ∈ ws := List.mem_of_getElem? hr1
        have hrow0 := hr r rm
        have nl : r.1 ≠ l := ne_of hrow0 h1' (by intro z; cases z)
        have nd2 : r.1 ≠ d := ne_of hrow0 hd' (by intro z; cases z)
        have hrow := kp r.1 _ nl nd2 hrow0
        have wm : r.2.w ∈ ways2 (ps.map (·.2)) := by
          rw [← eall]
          exact List.mem_map.mpr ⟨r.2, List.mem_map.mpr ⟨r, rm, rfl⟩, rfl⟩
        obtain ⟨g1, g2, g3, g4, g5⟩ := ways2_mem gd wm
        have gl : r.2.w.g < rooms.length := by omega
        have ol : r.2.w.o < rooms.length := by omega
        have fold : ∀ f : Fn, ((ws.take j).map (fun a => a.2.w.late (((x / day) + i) * day))).foldl fstep (agF (ps.map (·.2)) day (x / day) (lone k x) i) = f → ((ws.take (j + 1)).map (fun a => a.2.w.late (((x / day) + i) * day))).foldl fstep (agF (ps.map (·.2)) day (x / day) (lone k x) i) = fstep f (r.2.w.late (((x / day) + i) * day)) := fun f e => by
          rw [take_snoc hr1, List.map_append, List.foldl_append, e]; rfl
        refine (un4 hrow ?_)
        generalize ef : ((ws.take j).map (fun a => a.2.w.late (((x / day) + i) * day))).foldl fstep (agF (ps.map (·.2)) day (x / day) (lone k x) i) = f at h4 cm
        have fo := fold f ef
        refine (zr rfl (zr rfl (zr rfl (zr2 rfl rfl ⟨.inl ⟨by omega, by omega⟩, zr2 rfl rfl ?_⟩))))
        generalize eL : ((x / day) + (i : Int)) * day = L at fo
        have hg : ((rep rooms.length f).map oV)[r.2.w.g]? = some (oV (f r.2.w.g)) := rep_at gl
        have ho : ((rep rooms.length f).map oV)[r.2.w.o]? = some (oV (f r.2.w.o)) := rep_at ol
        refine (zr rfl (zr rfl (ixl h4 (atI_nat ho) (zr rfl (iteD (fun c => ?_) (fun c => iteB0 rfl ?_))))))
        · have c' := oV_non.mp c
          refine (zr rfl (zr rfl (ixl h4 (atI_nat hg) (zr rfl ⟨f r.2.w.g, r.2.w.t + L, rfl, zr rfl (iteB (fun c2 => ?_) (fun c2 => ?_))⟩))))
          · refine (zr rfl (zr rfl (zr rfl ⟨l, _, _, r.2.w.o, rfl, rfl, h4, ixN_nat (by rw [List.length_map, rep_len]; exact ol), ?_⟩)))
            refine (zr rfl (zr rfl (zr rfl ⟨by show 3 ≤ sizeLine; omega, fun tt htt => (zr rfl (zr rfl ⟨d, zr rfl ⟨DPut.k (k := Sum.inl (r.2.w.o : Int)) (same_new htt _ _ (by rw [upd_ne ndl]; exact h4d)) (by omega), ?_⟩⟩))⟩)))
            have nlt : l ≠ tt := ne_of_none (upd_same) htt
            have smx := (Same.put (o := HO.lst (((rep rooms.length f).map oV).set r.2.w.o (.int (r.2.w.t + L)))) hl sm4).trans (same_new (o := HO.tup [.int r.2.n, .int ((x / day) + i), .int r.2.w.g]) htt)
            have hdx := same_new (o := HO.tup [.int r.2.n, .int ((x / day) + i), .int r.2.w.g]) htt _ _ (show (upd H4 l (HO.lst (((rep rooms.length f).map oV).set r.2.w.o (.int (r.2.w.t + L))))) d = some (.dK kvs) by rw [upd_ne ndl]; exact h4d)
            have ntd : tt ≠ d := (ne_of_none (show (upd H4 l (HO.lst (((rep rooms.length f).map oV).set r.2.w.o (.int (r.2.w.t + L))))) d = some (.dK kvs) by rw [upd_ne ndl]; exact h4d) htt).symm
            have lnk : Link (ps.map (·.2)) r.2.n r.2.w.g r.2.w.o r.2.w.t := waysN_link (i := ps.length) (by rw [← ew]; exact List.mem_map.mpr ⟨r, rm, rfl⟩)
            have cmN : CameD (ps.map (·.2)) day k (((ws.take (j + 1)).map (fun a => a.2.w.late L)).foldl fstep (agF (ps.map (·.2)) day (x / day) (lone k x) i)) (putK kvs (Sum.inl (r.2.w.o : Int)) (.ref tt)) (upd (upd (upd H4 l (HO.lst (((rep rooms.length f).map oV).set r.2.w.o (.int (r.2.w.t + L))))) tt (HO.tup [.int r.2.n, .int ((x / day) + i), .int r.2.w.g])) d (HO.dK (putK kvs (Sum.inl (r.2.w.o : Int)) (.ref tt)))) := by
              rw [fo]
              unfold fstep
              rw [if_pos ⟨c', c2⟩]
              have := CameD.step (x := r.2) (turn := (x / day) + i) (tt := tt) (cm.tups (((Tups.set (o := HO.lst (((rep rooms.length f).map oV).set r.2.w.o (.int (r.2.w.t + L)))) h4).trans (Tups.new (o := HO.tup [.int r.2.n, .int ((x / day) + i), .int r.2.w.g]) htt)).trans (Tups.setD (o := HO.dK (putK kvs (Sum.inl (r.2.w.o : Int)) (.ref tt))) hdx))) (by omega) c' (by rw [eL]; exact c2) lnk (by rw [upd_ne ntd, upd_same])
              rw [eL] at this
              exact this
            refine ⟨⟨_, _, _, _, _, rfl⟩, Same.put hfd smx, ?_, ⟨_, upd_same, Nat.le_trans (length_putK _ _ _) (by omega), cmN⟩, fun b u nb nb' e => ?_⟩
            · rw [upd_ne ndl.symm, upd_ne nlt, upd_same, fo]
              unfold fstep
              rw [if_pos ⟨c', c2⟩]
              show _ = some (HO.lst ((rep rooms.length (put f r.2.w.o (some (r.2.w.t + L)))).map oV))
              rw [← rep_set ol, List.map_set]; rfl
            · rw [upd_ne nb']
              exact same_new htt _ _ (by rw [upd_ne nb]; exact kp b u nb nb' e)
          · refine ⟨⟨_, _, _, _, _, rfl⟩, sm4, ?_, ⟨kvs, h4d, by omega, by rw [fo]; unfold fstep; rw [if_neg fun z => by have z2 := z.2; rw [show below (f (r.2.w.late L).g) (r.2.w.late L).t = below (f r.2.w.g) (r.2.w.t + L) from rfl, c2] at z2; cases z2]; exact cm⟩, kp⟩
            rw [fo]
            unfold fstep
            rw [if_neg fun z => by have z2 := z.2; rw [show below (f (r.2.w.late L).g) (r.2.w.late L).t = below (f r.2.w.g) (r.2.w.t + L) from rfl, c2] at z2; cases z2]
            exact h4
        · refine ⟨⟨_, _, _, _, _, rfl⟩, sm4, ?_, ⟨kvs, h4d, by omega, by rw [fo]; unfold fstep; rw [if_neg fun z => c (oV_non.mpr z.1)]; exact cm⟩, kp⟩
          rw [fo]
          unfold fstep
          rw [if_neg fun z => c (oV_non.mpr z.1)]
          exact h4
      · rintro σ H4 ⟨⟨v8, v9, v10, v11, v12, rfl⟩, sm4, h4, ⟨kvs, h4d, lk, cm⟩, kp⟩
        rw [List.length_map, List.take_length] at h4 cm
        have e : ((ws.map (fun a => a.2.w.late (((x / day) + i) * day))).foldl fstep (agF (ps.map (·.2)) day (x / day) (lone k x) i)) = agF (ps.map (·.2)) day (x / day) (lone k x) (i + 1) := by
          rw [agF_succ, ← eall, List.map_map, List.map_map]; rfl
        rw [e] at h4 cm
        rw [List.length_map] at lk
        exact ⟨⟨_, _, _, _, _, _, rfl⟩, sm4, h4, kvs, h4d, by omega, cm⟩
    · rintro σ H4 ⟨⟨v7, v8, v9, v10, v11, v12, rfl⟩, sm4, h4, kvs, h4d, lk, cm⟩
      exact (zr rfl (zr rfl ⟨by show 2 ≤ sizeLine; omega, fun tt htt => q tt l d kvs _ hl (sm4.trans (same_new htt)) upd_same (same_new htt _ _ h4) (same_new htt _ _ h4d) (cm.tups (Tups.new htt))⟩))
theorem sc_again_times : FnScope ["book", "day", "sender", "since", "times", "came"] ["book", "day", "sender", "since"] (defScope s_again_times) := ⟨rfl, rfl, rfl, by decide +kernel, rfl, by decide +kernel, by decide +kernel⟩
theorem ok_again_times (T : Tx K mg a t_LONGEST_DAY) : FnOk P w K mg base (CXE P w) 4 a.a_again_times a.d_again_times ["book", "day", "sender", "since"] (spAgTX K a.c_NoDay) := by
  have G_need_day := @ok_need_day P w _ _ base _ _ T
  have G_first_givings_again := @ok_first_givings_again P w _ _ base _ _ T
  refine T.F_again_times.okE sc_again_times (fun vs H Q E h => ?_) (fun cdv A outer s H vs Q E hr h => ?_)
  · rcases h with ⟨b, day, k, x, _, _, _, _, rfl, _⟩ | ⟨_, _, _, _, _, _, _, _, rfl, _⟩ <;> rfl
  · have nd := sc_again_times.nd
    have hu := hr.units
    skip
    refine ⟨_, (@bl_out _ _ _ (@bl_c _ _ _ _ _ _ (ps_expr (pe_call (E := E) G_need_day (hr.mono (by decide)) rfl T.m_need_day T.k_need_day T.i_need_day .nil (pass_on rfl rfl rfl (fun _ _ z => z)) (@pa_out _ _ _ (@pa_c _ _ _ _ _ (pv 0) (@pa_c _ _ _ _ _ (pv 1) pa_n rfl) rfl)))) (@bl_c _ _ _ _ _ _ (PS.nox (ps_asg (pe_call G_first_givings_again (hr.mono (by decide)) rfl T.m_first_givings_again T.k_first_givings_again T.i_first_givings_again .nil pass0 (@pa_out _ _ _ (@pa_c _ _ _ _ _ (pv 0) (@pa_c _ _ _ _ _ (pv 1) (@pa_c _ _ _ _ _ (pv 2) (@pa_c _ _ _ _ _ (pv 3) pa_n rfl) rfl) rfl) rfl))) (pg_tup' (n := 2) rfl rfl (pgs_cons (pg_name (i := 4) nd rfl (by first | exact Or.inl rfl | exact Or.inr rfl)) (pgs_cons (pg_name (i := 5) nd rfl (by first | exact Or.inl rfl | exact Or.inr rfl)) pgs_nil))))) (@bl_1 _ _ _ (PS.nox (@ps_ret _ _ _ _ (pv 4))))))), ?_⟩
    rcases h with ⟨b, day, k, x, rooms, tr, tm, ps, rfl, hb, hn, gd, d1, d6, hd, x0, x9, q⟩ | ⟨b, x, u, v, rooms, tr, tm, ps, rfl, bad, q⟩
    · skip
      have l60 := gd.len
      refine (zr rfl (zr rfl (.inl (ex6 b day rooms tr tm ps ⟨rfl, hb, by omega, d1, d6, hd, fun H1 sm1 => ?_⟩))))
      refine (zr rfl (zr rfl (zr rfl (zr rfl (ex8 b day k x rooms tr tm ps ⟨rfl, hb.same sm1, hn, gd, d1, by omega, x0, x9, fun t l d kvs H2 hl sm2 ht h2 hd cm => (un2 ht ?_)⟩)))))
      exact (zr rfl (q l H2 (sm1.free hl) (sm1.trans sm2) h2))
    · exact (zr rfl (zr rfl (.inr (ex6 b x rooms tr tm ps ⟨rfl, bad, q⟩))))
theorem sc_again_chain : FnScope ["book", "day", "sender", "since", "wish", "times", "came", "chain", "walker", "number", "turn"] ["book", "day", "sender", "since", "wish"] (defScope s_again_chain) := ⟨rfl, rfl, rfl, by decide +kernel, rfl, by decide +kernel, by decide +kernel⟩
theorem ok_again_chain (T : Tx K mg a t_LONGEST_DAY) : FnOk P w K mg base (CXE P w) 4 a.a_again_chain a.d_again_chain ["book", "day", "sender", "since", "wish"] (spAgCX K a.c_NoDay) := by
  have G_need_day := @ok_need_day P w _ _ base _ _ T
  have G_first_givings_again := @ok_first_givings_again P w _ _ base _ _ T
  refine T.F_again_chain.okE sc_again_chain (fun vs H Q E h => ?_) (fun cdv A outer s H vs Q E hr h => ?_)
  · rcases h with ⟨b, day, k, w, x, _, _, _, _, rfl, _⟩ | ⟨_, _, _, _, _, _, _, _, _, rfl, _⟩ <;> rfl
  · have nd := sc_again_chain.nd
    have hu := hr.units
    skip
    refine ⟨_, (@bl_out _ _ _ (@bl_c _ _ _ _ _ _ (ps_expr (pe_call (E := E) G_need_day (hr.mono (by decide)) rfl T.m_need_day T.k_need_day T.i_need_day .nil (pass_on rfl rfl rfl (fun _ _ z => z)) (@pa_out _ _ _ (@pa_c _ _ _ _ _ (pv 0) (@pa_c _ _ _ _ _ (pv 1) pa_n rfl) rfl)))) (@bl_c _ _ _ _ _ _ (PS.nox (ps_asg (pe_call G_first_givings_again (hr.mono (by decide)) rfl T.m_first_givings_again T.k_first_givings_again T.i_first_givings_again .nil pass0 (@pa_out _ _ _ (@pa_c _ _ _ _ _ (pv 0) (@pa_c _ _ _ _ _ (pv 1) (@pa_c _ _ _ _ _ (pv 2) (@pa_c _ _ _ _ _ (pv 3) pa_n rfl) rfl) rfl) rfl))) (pg_tup' (n := 2) rfl rfl (pgs_cons (pg_name (i := 5) nd rfl (by first | exact Or.inl rfl | exact Or.inr rfl)) (pgs_cons (pg_name (i := 6) nd rfl (by first | exact Or.inl rfl | exact Or.inr rfl)) pgs_nil))))) (@bl_c _ _ _ _ _ _ (PS.nox (@ps_if _ _ _ _ _ _ _ _ (pt_cmp (@pc_isN _ _ _ _ _ (@pe_ix _ _ _ _ _ _ _ (ix_list' rfl) (pv 5) (pv 4) (fun _ _ => rfl)))) (@bl_out _ _ _ (@bl_1 _ _ _ (@ps_ret _ _ _ _ pe_non))) pss_nil)) (@bl_c _ _ _ _ _ _ (PS.nox (ps_set (i := 7) nd rfl (by first | exact Or.inl rfl | exact Or.inr rfl) (@pe_lst _ _ _ _ pa_nil))) (@bl_c _ _ _ _ _ _ (PS.nox (ps_set (i := 8) nd rfl (by first | exact Or.inl rfl | exact Or.inr rfl) (pv 4))) (@bl_c _ _ _ _ _ _ (PS.nox (@ps_while _ _ _ _ _ _ PassesOwn.never (@pt_cmpR _ _ _ _ _ _ _ _ op_ne (pv 8) (pv 2) (nomark _)) (@bl_out _ _ _ (@bl_c _ _ _ _ _ _ (ps_asg (pe_dget (Nat.lt_of_le_of_lt (Nat.add_le_add_left (by decide) _) hu) (pv 6) (pv 8) (fun _ _ => rfl)) (pg_tup' (n := 3) rfl rfl (pgs_cons (pg_name (i := 9) nd rfl (by first | exact Or.inl rfl | exact Or.inr rfl)) (pgs_cons (pg_name (i := 10) nd rfl (by first | exact Or.inl rfl | exact Or.inr rfl)) (pgs_cons (pg_name (i := 8) nd rfl (by first | exact Or.inl rfl | exact Or.inr rfl)) pgs_nil))))) (@bl_1 _ _ _ (ps_expr (pe_bm PySem.F.plainAttrs_list PySem.F.slot_list_append PySem.F.type_list_append mt_append (pv 7) (@pa_out _ _ _ (@pa_c _ _ _ _ _ (@pe_tup _ _ _ _ _ (@pa_out _ _ _ (@pa_c _ _ _ _ _ (pv 9) (@pa_c _ _ _ _ _ (pv 10) pa_n rfl) rfl))) pa_n rfl))))))))) (@bl_1 _ _ _ (PS.nox (@ps_ret _ _ _ _ (@pe_revL _ _ _ _ _ _ _ _ _ rfl (pv 7)))))))))))), ?_⟩
    rcases h with ⟨b, day, k, w0, x, rooms, tr, tm, ps, rfl, hb, hn, gd, hw, d1, d6, hd, x0, x9, qn, qy⟩ | ⟨b, x, u, v, z, rooms, tr, tm, ps, rfl, bad, q⟩
    · skip
      have line := line9
      have l60 := gd.len
      refine (zr rfl (zr rfl (.inl (ex6 b day rooms tr tm ps ⟨rfl, hb, by omega, d1, d6, hd, fun H0 sm0 => ?_⟩))))
      refine (zr rfl (zr rfl (zr rfl (zr rfl (ex8 b day k x rooms tr tm ps ⟨rfl, hb.same sm0, hn, gd, d1, by omega, x0, x9, fun t l d kvs H1 hl sm1' ht h1 hd1 cm => (un2 ht ?_)⟩)))))
      have sm1 := sm0.trans sm1'
      have self := agF_self (ms := ps.map (·.2)) (day := day) (first := x / day) (x := x) (k := k) rooms.length
      generalize agF (ps.map (·.2)) day (x / day) (lone k x) rooms.length = E0 at qn qy h1 cm self
      have hat : atI ((rep rooms.length E0).map oV) (w0 : Int) = some (oV (E0 w0)) := atI_nat (rep_at hw)
      refine (zr rfl (zr rfl (ixl h1 hat (zr rfl ?_))))
      cases hew : E0 w0 with
      | none => exact iteB1 rfl (qn hew _ sm1)
      | some ew =>
      refine iteB0 rfl ?_
      refine ⟨Nat.zero_le _, fun lc hlc => (zr rfl ?_)⟩
      have hlcH : H lc = none := sm1.free hlc
      refine while_by (fun σ H4 => ∃ (v : Nat) (e : Int) (cs : List (Addr × Int × Int)), ∃ v9 v10, σ = [some (.ref b), some (.int day), some (.int k), some (.int x), some (.int w0), some (.ref l), some (.ref d), some (.ref lc), some (.int v), v9, v10] ∧ E0 v = some e ∧ H4 lc = some (.lst (cs.reverse.map fun c => V.ref c.1)) ∧ (∀ c ∈ cs, H4 c.1 = some (.tup [.int c.2.1, .int c.2.2])) ∧ (∀ rs, BackR (ps.map (·.2)) day E0 k v rs → BackR (ps.map (·.2)) day E0 k w0 ((cs.map (·.2)).reverse ++ rs)) ∧
          (∀ b u, b ≠ lc → H1 b = some u → H4 b = some u) ∧ cs.length + rankE rooms.length E0 e ≤ rooms.length ∧ walkD (ps.map (·.2)) day v e (cs.map (·.2)) = some (w0, ew))
        (fun σ _ => muD rooms.length E0 σ) ?_ ?_ ?_
      · exact ⟨w0, ew, [], zr1 rfl ⟨hew, upd_same, fun _ h => (nomatch h), fun rs h => h, fun b u nb e => by rw [upd_ne nb]; exact e, by have := rank_le rooms.length E0 ew; simpa using this, rfl⟩⟩
      · rintro σ H4 ⟨v, e, cs, v9, v10, rfl, he, hc, hcs, hself, kp, lrk, wk⟩
        refine (zr rfl (zr rfl ⟨rfl, zr rfl ?_⟩))
        by_cases hv : v = k
        · subst hv
          rw [self] at he; cases he
          refine iteNS2 rfl ?_
          refine (zr rfl ⟨lc, zr rfl ⟨SqL.of hc, fun lr hlr => ?_⟩⟩)
          have e1 : (cs.reverse.map fun c => V.ref c.1).reverse = cs.map fun c => V.ref c.1 := by rw [← List.map_reverse, List.reverse_reverse]
          rw [e1]
          have smH : Same H H4 := fun b u eb => kp b u (ne_of_none eb hlcH) (sm1 b u eb)
          exact qy ew lr cs _ hew (smH.free hlr) (smH.trans (same_new hlr)) upd_same (fun c hc => same_new hlr _ _ (hcs c hc)) (by have := hself [] .nil; rwa [List.append_nil] at this)
        · refine iteB1 (by have : ¬ V.int (v : Int) = V.int (k : Int) := fun z => hv (by have := V.int.inj z; omega); simp [this]) ?_
          obtain hv' | ⟨tt, n, g, turn, y, c1, c2, c0, c3, c4, c5⟩ := cm v e he
          · exact absurd hv' hv
          obtain ⟨gi, vi, gv⟩ := c3.inside gd
          have hd4 := kp d _ (fun z => by rw [z] at hd1; rw [hd1] at hlc; cases hlc) hd1
          have ht4 := kp tt _ (fun z => by rw [z] at c2; rw [c2] at hlc; cases hlc) c2
          have dg : DGet H4 d (.int (v : Int)) (some (.ref tt)) := by
            have := DGet.k (k := Sum.inl (v : Int)) hd4
            rw [c1] at this; exact this
          have rl := rank_lt gi c4 c5
          refine (zr rfl (zr rfl ⟨d, .ref tt, rfl, dg, un3 ht4 ?_⟩))
          refine (zr rfl ⟨.inl ⟨rfl, _, SqL.of hc⟩, zr rfl (zr rfl ⟨by show 2 ≤ sizeLine; omega, fun tp htp => ?_⟩)⟩)
          have smt := same_new (o := HO.tup [V.int (n : Int), V.int turn]) htp
          have hc5 := smt _ _ hc
          have htp5 : (upd H4 tp (HO.tup [V.int (n : Int), V.int turn])) tp = some (.tup [V.int (n : Int), V.int turn]) := upd_same
          generalize upd H4 tp (HO.tup [V.int (n : Int), V.int turn]) = H5 at smt hc5 htp5 ⊢
          refine ⟨lc, zr2 rfl rfl ⟨hc5, by rw [List.length_map, List.length_reverse]; omega, ⟨g, y, (tp, (n : Int), turn) :: cs, zr1 rfl ⟨c4, ?_, ?_, ?_, fun b u nb eb => by rw [upd_ne nb]; exact smt _ _ (kp b u nb eb), by rw [List.length_cons]; omega, ?_⟩⟩, ?_⟩⟩
          · rw [upd_same, List.reverse_cons, List.map_append]; rfl
          · intro c hc'
            rcases List.mem_cons.mp hc' with rfl | hc'
            · exact Tups.set hc5 _ _ htp5
            · exact Tups.set hc5 _ _ (smt _ _ (hcs c hc'))
          · intro rs hrs
            have := hself _ (.cons hv he c3 hrs)
            rw [List.map_cons, List.reverse_cons, List.append_assoc]
            exact this
          · rw [List.map_cons, walkD_cons c3 gv c5 c0]
            exact wk
          · show muD rooms.length E0 _ < muD rooms.length E0 _
            unfold muD
            simp only [List.set_cons_succ, List.set_cons_zero, List.getElem?_cons_succ, List.getElem?_cons_zero, Int.toNat_natCast, c4, he]
            exact rl
      · rintro σ H4 Q1 Q2 hq ⟨x, hx, y, hy, hsc, k1, hk1, h⟩
        exact ⟨x, hx, y, hy, hsc, k1, hk1, hq _ _ h⟩
    · exact (zr rfl (zr rfl (.inr (ex6 b x rooms tr tm ps ⟨rfl, bad, q⟩))))
theorem sc_waits : FnScope ["book", "day", "walker", "other", "told", "whens", "since", "time"] ["book", "day", "walker", "other"] (defScope s_waits) := ⟨rfl, rfl, rfl, by decide +kernel, rfl, by decide +kernel, by decide +kernel⟩
theorem ok_waits (T : Tx K mg a t_LONGEST_DAY) : FnOk P w K mg base (CXE P w) 5 a.a_waits a.d_waits ["book", "day", "walker", "other"] (spWaitsX K a.c_NoDay) := by
  have G_meetings_of := @ok_meetings_of P w _ _ base _ _ T
  have G_again_times := @ok_again_times P w _ _ base _ _ T
  refine T.F_waits.okE sc_waits (fun vs H Q E h => ?_) (fun cdv A outer s H vs Q E hr h => ?_)
  · rcases h with ⟨b, day, k, w, _, _, _, _, rfl, _⟩ | ⟨_, _, _, _, _, _, _, _, rfl, _⟩ <;> rfl
  · have nd := sc_waits.nd
    have hu := hr.units
    skip
    refine ⟨_, (@bl_out _ _ _ (@bl_c _ _ _ _ _ _ (PS.nox (ps_set (i := 4) nd rfl (by first | exact Or.inl rfl | exact Or.inr rfl) (@pe_lst _ _ _ _ pa_nil))) (@bl_c _ _ _ _ _ _ (PS.nox (ps_setComp (ix := 5) nd rfl (by first | exact Or.inl rfl | exact Or.inr rfl) (own := ["number"]) (caps := [0]) rfl (show CompScope ["number"] [0] ["book", "day", "walker", "other", "told", "whens", "since", "time"] (defScope s_waits) _ from ⟨rfl, by decide +kernel, by decide +kernel, by decide +kernel, by decide +kernel⟩) (@pi_list' _ _ _ _ _ rfl (pe_call G_meetings_of (hr.mono (by decide)) rfl T.m_meetings_of T.k_meetings_of T.i_meetings_of .nil pass0 (@pa_out _ _ _ (@pa_c _ _ _ _ _ (pv 0) (@pa_c _ _ _ _ _ (pv 2) pa_n rfl) rfl)))) (fun _ _ _ _ => (pg_name (i := 0) (show List.Nodup (["number", "book"] : List Str) from by decide +kernel) rfl (by first | exact Or.inl rfl | exact Or.inr rfl))) (fun _ _ _ _ => pts_nil) (fun _ _ _ _ => (@pe_ix _ _ _ _ _ _ _ (ix_tup' rfl) (@pe_ix _ _ _ _ _ _ _ (ix_tup' rfl) (@pe_ix _ _ _ _ _ _ _ (ix_tup' rfl) (pv 1) pe_int (fun _ _ => rfl)) (pv 0) (fun _ _ => rfl)) pe_int (fun _ _ => rfl))))) (@bl_c _ _ _ _ _ _ (ps_for pass_own rfl (@pi_list' _ _ _ _ _ rfl (@pe_op _ _ _ _ _ _ _ _ op_cat (@pe_lst _ _ _ _ (@pa_out _ _ _ (@pa_c _ _ _ _ _ pe_int pa_n rfl))) (pe_comp (own := ["when"]) (caps := [1]) rfl (show CompScope ["when"] [1] ["book", "day", "walker", "other", "told", "whens", "since", "time"] (defScope s_waits) _ from ⟨rfl, by decide +kernel, by decide +kernel, by decide +kernel, by decide +kernel⟩) (@pi_list' _ _ _ _ _ rfl (pv 5)) (fun _ _ _ _ => (pg_name (i := 0) (show List.Nodup (["when", "day"] : List Str) from by decide +kernel) rfl (by first | exact Or.inl rfl | exact Or.inr rfl))) (fun _ _ _ _ => pts_one (@pt_cmpR _ _ _ _ _ _ _ _ (op_neOdd' rfl (by exact hu)) (pv 0) (pv 1) (nomark _))) (fun _ _ _ _ => (pv 0))))) (pg_name (i := 6) nd rfl (by first | exact Or.inl rfl | exact Or.inr rfl)) (@bl_out _ _ _ (@bl_c _ _ _ _ _ _ (ps_set (i := 7) nd rfl (by first | exact Or.inl rfl | exact Or.inr rfl) (@pe_ix _ _ _ _ _ _ _ (ix_list' rfl) (pe_call (E := E) G_again_times (hr.mono (by decide)) rfl T.m_again_times T.k_again_times T.i_again_times .nil (pass_on rfl rfl rfl (fun _ _ z => z)) (@pa_out _ _ _ (@pa_c _ _ _ _ _ (pv 0) (@pa_c _ _ _ _ _ (pv 1) (@pa_c _ _ _ _ _ (pv 2) (@pa_c _ _ _ _ _ (pv 6) pa_n rfl) rfl) rfl) rfl))) (pv 3) (fun _ _ => rfl))) (@bl_c _ _ _ _ _ _ (PS.nox (@ps_if _ _ _ _ _ _ _ _ (pt_cmp (@pc_isN _ _ _ _ _ (pv 7))) (@bl_out _ _ _ (@bl_1 _ _ _ (@ps_ret _ _ _ _ pe_non))) pss_nil)) (@bl_1 _ _ _ (PS.nox (@ps_if _ _ _ _ _ _ _ _ (@PW.pt _ _ _ (@pw_or _ _ _ _ _ _ _ (@pt_not _ _ _ _ (pt_truth (pv 4) (fun _ => rfl))) (@pw_or1 _ _ _ _ (@pt_cmpR _ _ _ _ _ _ _ _ op_ne (@pe_ix _ _ _ _ _ _ _ (ix_tup' rfl) (@pe_ix _ _ _ _ _ _ _ (ix_list' rfl) (pv 4) (@pe_un _ _ _ _ _ _ un_neg pe_int) (fun _ _ => rfl)) pe_int (fun _ _ => rfl)) (pv 7) (nomark _))))) (@bl_out _ _ _ (@bl_1 _ _ _ (ps_expr (pe_bm PySem.F.plainAttrs_list PySem.F.slot_list_append PySem.F.type_list_append mt_append (pv 4) (@pa_out _ _ _ (@pa_c _ _ _ _ _ (@pe_tup _ _ _ _ _ (@pa_out _ _ _ (@pa_c _ _ _ _ _ (pv 6) (@pa_c _ _ _ _ _ (pv 7) pa_n rfl) rfl))) pa_n rfl)))))) pss_nil))))))) (@bl_1 _ _ _ (PS.nox (@ps_ret _ _ _ _ (pv 4)))))))), ?_⟩
    rcases h with ⟨b, day, k, w0, rooms, tr, tm, ps, rfl, hb, hn, gd, hk, hw, d1, d6, hd, qn, qy⟩ | ⟨b, x, k, w0, rooms, tr, tm, ps, rfl, bad, q⟩
    · skip
      have line := line9
      have l60 := gd.len
      refine ⟨Nat.zero_le _, fun lt hlt => ?_⟩
      have sm1 := same_new (o := HO.lst []) hlt
      have h1 : (upd H lt (HO.lst [])) lt = some (.lst []) := upd_same
      generalize upd H lt (HO.lst []) = H1 at sm1 h1 ⊢
      have hb1 := hb.same sm1
      refine (zr rfl (zr rfl (ex6 b k rooms tr tm ps ⟨rfl, hb1, by omega, fun lm H2 hlm sm2 h2 => ⟨lm, rfl, ⟨_, SqL.of h2⟩, ?_⟩⟩)))
      have lnum := numsTo_len (ps.map (·.2)) k ps.length
      have sm12 := sm1.trans sm2
      have hb2 := hb.same sm12
      refine comp_list (K := K) (a := lm) (xs := (numsTo (ps.map (·.2)) k ps.length).map V.int) (fun i τ acc H5 => (∃ t0, τ = [t0, some (.ref b)]) ∧ acc = (((numsTo (ps.map (·.2)) k ps.length).take i).map (whenOf (ps.map (·.2)))).map V.int ∧ H2 = H5) ?_ (by rw [List.length_map]; omega) ?_ ?_ ?_
      · exact ⟨⟨_, rfl⟩, rfl, rfl⟩
      · rintro i τ acc H5 ⟨⟨t0, rfl⟩, rfl, rfl⟩
        exact ⟨by rw [List.length_map, List.length_map, List.length_take]; omega, SqL.of h2⟩
      · rintro i y τ acc H5 C hx ⟨⟨t0, rfl⟩, rfl, rfl⟩ hC
        obtain ⟨j, hj, rfl⟩ := map_get hx
        obtain ⟨n, rfl, ln, r, hr, _⟩ := nums_mem (List.mem_of_getElem? hj)
        have em : ps[n].2 = r := by
          rw [List.getElem?_map, List.getElem?_eq_getElem ln] at hr
          exact Option.some.inj hr
        have hrow := hb2.rows _ (List.getElem_mem ln)
        rw [em] at hrow
        refine (zr rfl (ixt hb2.book rfl (zr rfl (ixt hb2.meets (atI_nat (v := V.ref ps[n].1) (by simp [ln])) (ixt hrow rfl (hC _ _ _ ⟨⟨_, rfl⟩, ?_, rfl⟩))))))
        rw [take_snoc hj, List.map_append, List.map_append, ← whenOf_nat hr]; rfl
      · rintro τ acc H5 ⟨⟨t0, rfl⟩, rfl, rfl⟩ lw hlw
        rw [List.length_map, List.take_length]
        have ew : ((numsTo (ps.map (·.2)) k ps.length).map (whenOf (ps.map (·.2)))) = whens (ps.map (·.2)) k := by unfold whens; rw [List.length_map]
        rw [ew]
        have sm3 := same_new (o := HO.lst ((whens (ps.map (·.2)) k).map V.int)) hlw
        have h3 : (upd H2 lw (HO.lst ((whens (ps.map (·.2)) k).map V.int))) lw = some (.lst ((whens (ps.map (·.2)) k).map V.int)) := upd_same
        generalize upd H2 lw (HO.lst ((whens (ps.map (·.2)) k).map V.int)) = H3 at sm3 h3 ⊢
        refine ⟨by show 1 ≤ sizeLine; omega, fun l0 hl0 => ?_⟩
        have sm4 := sm3.trans (same_new (o := HO.lst [V.int 0]) hl0)
        have h4 := same_new (o := HO.lst [V.int 0]) hl0 _ _ h3
        have h40 : (upd H3 l0 (HO.lst [V.int 0])) l0 = some (.lst [V.int 0]) := upd_same
        generalize upd H3 l0 (HO.lst [V.int 0]) = H4 at sm4 h4 h40 ⊢
        have lwh : (whens (ps.map (·.2)) k).length ≤ ps.length := by unfold whens; rw [List.length_map, List.length_map]; exact lnum
        refine (zr rfl ⟨lw, rfl, ⟨_, SqL.of h4⟩, ?_⟩)
        refine comp_list (K := K) (a := lw) (xs := (whens (ps.map (·.2)) k).map V.int) (fun i τ acc H5 => (∃ t0, τ = [t0, some (.int day)]) ∧ acc = (((whens (ps.map (·.2)) k).take i).filter fun x => decide (x ≠ day)).map V.int ∧ H4 = H5) ?_ (by rw [List.length_map]; omega) ?_ ?_ ?_
        · exact ⟨⟨_, rfl⟩, rfl, rfl⟩
        · rintro i τ acc H5 ⟨⟨t0, rfl⟩, rfl, rfl⟩
          refine ⟨?_, SqL.of h4⟩
          have := List.length_filter_le (fun x => decide (x ≠ day)) ((whens (ps.map (·.2)) k).take i)
          rw [List.length_take] at this
          rw [List.length_map]; omega
        · rintro i y τ acc H5 C hx ⟨⟨t0, rfl⟩, rfl, rfl⟩ hC
          obtain ⟨j, hj, rfl⟩ := map_get hx
          refine (zr rfl (zr rfl (.inl (zr2 rfl rfl (zr rfl (iteB (fun c => (zr rfl (hC _ _ _ ⟨⟨_, rfl⟩, ?_, rfl⟩))) (fun c => hC _ _ _ ⟨⟨_, rfl⟩, ?_, rfl⟩)))))))
          · have c' : j ≠ day := fun e => by rw [e] at c; simp at c
            rw [take_snoc hj, List.filter_append, List.map_append]; simp [c']
          · have c' : j = day := by simpa using c
            rw [take_snoc hj, List.filter_append]; simp [c']
        · rintro τ acc H5 ⟨⟨t0, rfl⟩, rfl, rfl⟩ lc hlc
          rw [List.length_map, List.take_length]
          generalize ef : (whens (ps.map (·.2)) k).filter (fun x => decide (x ≠ day)) = fs
          have lfs : fs.length ≤ ps.length := by
            have := List.length_filter_le (fun x => decide (x ≠ day)) (whens (ps.map (·.2)) k)
            rw [ef] at this; omega
          have sm5 := sm4.trans (same_new (o := HO.lst (fs.map V.int)) hlc)
          have h50 := same_new (o := HO.lst (fs.map V.int)) hlc _ _ h40
          have h5 : (upd H4 lc (HO.lst (fs.map V.int))) lc = some (.lst (fs.map V.int)) := upd_same
          generalize upd H4 lc (HO.lst (fs.map V.int)) = H5 at sm5 h50 h5 ⊢
          refine ⟨l0, lc, zr2 rfl rfl ⟨h50, h5, by rw [List.length_map]; show 1 + fs.length ≤ sizeLine; omega, fun l3 hl3 => ?_⟩⟩
          have ea : anch (ps.map (·.2)) day k = 0 :: fs := by unfold anch; rw [ef]
          rw [show [V.int 0] ++ fs.map V.int = (anch (ps.map (·.2)) day k).map V.int by rw [ea]; rfl]
          have sm6 := sm5.trans (same_new (o := HO.lst ((anch (ps.map (·.2)) day k).map V.int)) hl3)
          have h6 : (upd H5 l3 (HO.lst ((anch (ps.map (·.2)) day k).map V.int))) l3 = some (.lst ((anch (ps.map (·.2)) day k).map V.int)) := upd_same
          generalize upd H5 l3 (HO.lst ((anch (ps.map (·.2)) day k).map V.int)) = H6 at sm6 h6 ⊢
          have sm26 := sm2.trans sm6
          have sm16 := sm1.trans sm26
          have h6t := sm26 _ _ h1
          have n3t : l3 ≠ lt := fun e => by
            rw [e, h6t] at h6
            have := Option.some.inj h6
            injection this with this
            rw [ea] at this; cases this
          have each : ∀ x ∈ anch (ps.map (·.2)) day k, 0 ≤ x ∧ x ≤ 1000000 := fun x hx => by
            rw [ea] at hx
            rcases List.mem_cons.mp hx with rfl | hx
            · exact ⟨by decide, by decide⟩
            · rw [← ef] at hx
              obtain ⟨m, hm, e⟩ := whens_mem gd (List.mem_filter.mp hx).1
              have h1 := (gd.each m hm).2.2.2.1
              have h2 := hd m hm
              omega
          refine ⟨l3, rfl, ⟨_, SqL.of h6⟩, ?_⟩
          by_cases z0 : tOf (ps.map (·.2)) day rooms.length k w0 0 = none
          · refine for_list (K := K) (a := l3) (xs := (anch (ps.map (·.2)) day k).map V.int) (fun i σ H7 => i = 0 ∧ σ = [some (.ref b), some (.int day), some (.int k), some (.int w0), some (.ref lt), some (.ref lw), none, none] ∧ H7 = H6)
              ⟨rfl, rfl, rfl⟩ (fun i σ H7 _ h7 => by rw [h7.2.2]; exact SqL.of h6) ?_ ?_
            · rintro i y σ H7 hx ⟨rfl, rfl, rfl⟩
              rw [ea] at hx
              cases hx
              refine (zr rfl (zr rfl (zr rfl (zr rfl (.inl (ex8 b day k 0 rooms tr tm ps ⟨rfl, hb.same sm16, hn, gd, d1, d6, hd, by omega, by omega, fun l H8 hl sm8 h8 => (zr rfl (ixl h8 (show atI _ _ = some V.non by rw [atI_nat (rep_at hw)]; rw [show agF (ps.map (·.2)) day (0 / day) (lone k 0) rooms.length w0 = none from z0]; rfl) ?_))⟩))))))
              exact (zr rfl (zr rfl (iteB1 rfl (qn z0 _ (sm16.trans sm8)))))
            · rintro σ H7 ⟨e, _⟩
              rw [ea] at e; cases e
          · refine for_list (K := K) (a := l3) (xs := (anch (ps.map (·.2)) day k).map V.int) (fun i σ H7 => ∃ qs : List (Addr × Int × Int), (∃ v6 v7, σ = [some (.ref b), some (.int day), some (.int k), some (.int w0), some (.ref lt), some (.ref lw), v6, v7]) ∧ H7 lt = some (.lst (qs.map fun a => V.ref a.1)) ∧ (∀ a ∈ qs, H7 a.1 = some (.tup [.int a.2.1, .int a.2.2])) ∧ qs.map (·.2) = toldF (tOf (ps.map (·.2)) day rooms.length k w0) ((anch (ps.map (·.2)) day k).take i) ∧ But lt H6 H7)
              ⟨[], ⟨_, _, rfl⟩, h6t, fun _ h => (nomatch h), rfl, But.refl _ _⟩ (fun i σ H7 _ h7 => by obtain ⟨_, _, _, _, _, bt⟩ := h7; exact SqL.of (bt l3 _ n3t h6)) ?_ ?_
            · rintro i y σ H7 hx ⟨qs, ⟨v6, v7, rfl⟩, h7, hqs, eqs, bt⟩
              obtain ⟨x, hx1, rfl⟩ := map_get hx
              have hi := (List.getElem?_eq_some_iff.mp hx1).1
              obtain ⟨x0, x6⟩ := each x (List.mem_of_getElem? hx1)
              have sm7 : Same H H7 := fun b u e => bt b u (ne_of_none e hlt) (sm16 b u e)
              obtain ⟨yy, hyy⟩ : ∃ yy, tOf (ps.map (·.2)) day rooms.length k w0 x = some yy := Option.ne_none_iff_exists'.mp fun e => z0 (((agDE (x := 0) gd hk d1 hd).same (agDE (x := x) gd hk d1 hd) d1 w0).mpr e)
              have lqs : qs.length ≤ ps.length + 1 := by
                have h1 := congrArg List.length eqs
                have h2 := told_len (T := tOf (ps.map (·.2)) day rooms.length k w0) ((anch (ps.map (·.2)) day k).take i) []
                have h3 := anch_len (ms := ps.map (·.2)) (day := day) (k := k)
                rw [List.length_map] at h1 h3
                rw [List.length_take] at h2
                unfold toldF at h1
                rw [List.length_nil] at h2
                omega
              refine (zr rfl (zr rfl (zr rfl (zr rfl (.inl (ex8 b day k x rooms tr tm ps ⟨rfl, hb.same sm7, hn, gd, d1, d6, hd, x0, by omega, fun l H8 hl sm8 h8 => (zr rfl (ixl h8 (show atI _ _ = some (V.int yy) by rw [atI_nat (rep_at hw)]; rw [show agF (ps.map (·.2)) day (x / day) (lone k x) rooms.length w0 = some yy from hyy]; rfl) ?_))⟩))))))
              refine (zr rfl (zr rfl (iteB0 rfl ?_)))
              have h8t := sm8 _ _ h7
              have hqs8 : ∀ a ∈ qs, H8 a.1 = some (.tup [.int a.2.1, .int a.2.2]) := fun a ha => sm8 _ _ (hqs a ha)
              have bt8 : But lt H6 H8 := fun b u nb e => sm8 _ _ (bt b u nb e)
              have est : toldF (tOf (ps.map (·.2)) day rooms.length k w0) ((anch (ps.map (·.2)) day k).take (i + 1)) = toldStep (tOf (ps.map (·.2)) day rooms.length k w0) (qs.map (·.2)) x := by
                rw [take_snoc hx1, eqs]; unfold toldF; rw [List.foldl_append]; rfl
              have app : ∀ (c : (qs.map (·.2)).getLast?.map (·.2) ≠ some yy), toldF (tOf (ps.map (·.2)) day rooms.length k w0) ((anch (ps.map (·.2)) day k).take (i + 1)) = qs.map (·.2) ++ [(x, yy)] := fun c => by
                rw [est]; unfold toldStep; rw [hyy]; dsimp only; rw [if_neg c]
              have tail : (qs.map (·.2)).getLast?.map (·.2) ≠ some yy → ∀ t, H8 t = none → ∃ qs' : List (Addr × Int × Int), (upd (upd H8 t (.tup [.int x, .int yy])) lt (.lst (qs.map (fun a => V.ref a.1) ++ [V.ref t]))) lt = some (.lst (qs'.map fun a => V.ref a.1)) ∧ (∀ a ∈ qs', (upd (upd H8 t (.tup [.int x, .int yy])) lt (.lst (qs.map (fun a => V.ref a.1) ++ [V.ref t]))) a.1 = some (.tup [.int a.2.1, .int a.2.2])) ∧ qs'.map (·.2) = toldF (tOf (ps.map (·.2)) day rooms.length k w0) ((anch (ps.map (·.2)) day k).take (i + 1)) ∧ But lt H6 (upd (upd H8 t (.tup [.int x, .int yy])) lt (.lst (qs.map (fun a => V.ref a.1) ++ [V.ref t]))) := fun c t ht => by
                have h9 := same_new (o := HO.tup [.int x, .int yy]) ht _ _ h8t
                refine ⟨qs ++ [(t, x, yy)], by rw [upd_same, List.map_append]; rfl, fun a ha => ?_, by rw [app c, List.map_append]; rfl, fun b u nb e => by rw [upd_ne nb]; exact same_new ht _ _ (bt8 b u nb e)⟩
                rcases List.mem_append.mp ha with h | h
                · exact Tups.set h9 _ _ (same_new ht _ _ (hqs8 a h))
                · cases List.mem_singleton.mp h
                  exact Tups.set h9 _ _ upd_same
              cases eq : qs.getLast? with
              | none =>
                have e0 : qs = [] := by
                  cases qs with
                  | nil => rfl
                  | cons a b => rw [List.getLast?_cons] at eq; cases eq
                refine (zr rfl ⟨false, .inl ⟨_, SqL.of h8t, by rw [e0]; rfl⟩, iteB1 rfl ?_⟩)
                refine (zr rfl ⟨.inl ⟨rfl, _, SqL.of h8t⟩, zr rfl (zr rfl ⟨by show 2 ≤ sizeLine; omega, fun t ht => ⟨lt, zr2 rfl rfl ⟨same_new ht _ _ h8t, by rw [List.length_map]; omega, ?_⟩⟩⟩)⟩)
                obtain ⟨qs', a1, a2, a3, a4⟩ := tail (by rw [e0]; rintro ⟨⟩) t ht
                exact ⟨qs', ⟨_, _, rfl⟩, a1, a2, a3, a4⟩
              | some a =>
                have am := List.mem_of_getLast? eq
                have ne : (true : Bool) = !(qs.map fun a => V.ref a.1).isEmpty := by
                  cases qs with
                  | nil => cases eq
                  | cons a b => rfl
                have atl : atI (qs.map fun a => V.ref a.1) (-1) = some (V.ref a.1) := atI_last (by rw [List.getLast?_map, eq]; rfl)
                refine (zr rfl ⟨true, .inl ⟨_, SqL.of h8t, ne⟩, iteB0 rfl (zr rfl (zr rfl (ixl h8t atl (ixt (hqs8 a am) rfl (zr rfl ⟨rfl, zr rfl ?_⟩)))))⟩)
                have el : (qs.map (·.2)).getLast?.map (·.2) = some a.2.2 := by rw [List.getLast?_map, eq]; rfl
                by_cases c : a.2.2 = yy
                · refine iteNS2 (by rw [c]) ?_
                  refine ⟨qs, ⟨_, _, rfl⟩, h8t, hqs8, ?_, bt8⟩
                  rw [est]; unfold toldStep; rw [hyy]; dsimp only; rw [if_pos (by rw [el, c])]
                · refine iteB1 (by have : ¬ V.int a.2.2 = V.int yy := fun z => c (V.int.inj z); simp [this]) ?_
                  refine (zr rfl ⟨.inl ⟨rfl, _, SqL.of h8t⟩, zr rfl (zr rfl ⟨by show 2 ≤ sizeLine; omega, fun t ht => ⟨lt, zr2 rfl rfl ⟨same_new ht _ _ h8t, by rw [List.length_map]; omega, ?_⟩⟩⟩)⟩)
                  obtain ⟨qs', a1, a2, a3, a4⟩ := tail (by rw [el]; exact fun z => c (Option.some.inj z)) t ht
                  exact ⟨qs', ⟨_, _, rfl⟩, a1, a2, a3, a4⟩
            · rintro σ H7 ⟨qs, ⟨v6, v7, rfl⟩, h7, hqs, eqs, bt⟩
              rw [List.length_map, List.take_length] at eqs
              exact (zr rfl (qy lt qs H7 z0 hlt (fun b u e => bt b u (ne_of_none e hlt) (sm16 b u e)) h7 hqs eqs))
    · have line := line9
      have hb := bad.1
      have gd := bad.2.1
      have l60 := gd.len
      refine ⟨Nat.zero_le _, fun lt hlt => ?_⟩
      have sm1 := same_new (o := HO.lst []) hlt
      generalize upd H lt (HO.lst []) = H1 at sm1 ⊢
      have hb1 := hb.same sm1
      refine (zr rfl (zr rfl (ex6 b k rooms tr tm ps ⟨rfl, hb1, by omega, fun lm H2 hlm sm2 h2 => ⟨lm, rfl, ⟨_, SqL.of h2⟩, ?_⟩⟩)))
      have lnum := numsTo_len (ps.map (·.2)) k ps.length
      have sm12 := sm1.trans sm2
      have hb2 := hb.same sm12
      refine comp_list (K := K) (a := lm) (xs := (numsTo (ps.map (·.2)) k ps.length).map V.int) (fun i τ acc H5 => (∃ t0, τ = [t0, some (.ref b)]) ∧ acc = (((numsTo (ps.map (·.2)) k ps.length).take i).map (whenOf (ps.map (·.2)))).map V.int ∧ H2 = H5) ?_ (by rw [List.length_map]; omega) ?_ ?_ ?_
      · exact ⟨⟨_, rfl⟩, rfl, rfl⟩
      · rintro i τ acc H5 ⟨⟨t0, rfl⟩, rfl, rfl⟩
        exact ⟨by rw [List.length_map, List.length_map, List.length_take]; omega, SqL.of h2⟩
      · rintro i y τ acc H5 C hx ⟨⟨t0, rfl⟩, rfl, rfl⟩ hC
        obtain ⟨j, hj, rfl⟩ := map_get hx
        obtain ⟨n, rfl, ln, r, hr, _⟩ := nums_mem (List.mem_of_getElem? hj)
        have em : ps[n].2 = r := by
          rw [List.getElem?_map, List.getElem?_eq_getElem ln] at hr
          exact Option.some.inj hr
        have hrow := hb2.rows _ (List.getElem_mem ln)
        rw [em] at hrow
        refine (zr rfl (ixt hb2.book rfl (zr rfl (ixt hb2.meets (atI_nat (v := V.ref ps[n].1) (by simp [ln])) (ixt hrow rfl (hC _ _ _ ⟨⟨_, rfl⟩, ?_, rfl⟩))))))
        rw [take_snoc hj, List.map_append, List.map_append, ← whenOf_nat hr]; rfl
      · rintro τ acc H5 ⟨⟨t0, rfl⟩, rfl, rfl⟩ lw hlw
        rw [List.length_map, List.take_length]
        generalize ew : ((numsTo (ps.map (·.2)) k ps.length).map (whenOf (ps.map (·.2)))) = whs
        have lwh : whs.length ≤ ps.length := by rw [← ew, List.length_map]; exact lnum
        have sm3 := same_new (o := HO.lst (whs.map V.int)) hlw
        have h3 : (upd H2 lw (HO.lst (whs.map V.int))) lw = some (.lst (whs.map V.int)) := upd_same
        generalize upd H2 lw (HO.lst (whs.map V.int)) = H3 at sm3 h3 ⊢
        refine ⟨by show 1 ≤ sizeLine; omega, fun l0 hl0 => ?_⟩
        have sm4 := sm3.trans (same_new (o := HO.lst [V.int 0]) hl0)
        have h4 := same_new (o := HO.lst [V.int 0]) hl0 _ _ h3
        have h40 : (upd H3 l0 (HO.lst [V.int 0])) l0 = some (.lst [V.int 0]) := upd_same
        generalize upd H3 l0 (HO.lst [V.int 0]) = H4 at sm4 h4 h40 ⊢
        have bad4 := bad.same (sm12.trans sm4)
        refine (zr rfl ⟨lw, rfl, ⟨_, SqL.of h4⟩, ?_⟩)
        refine comp_list (K := K) (a := lw) (xs := whs.map V.int) (fun i τ acc H5 => ∃ fs : List Int, (∃ t0, τ = [t0, some x]) ∧ acc = fs.map V.int ∧ fs.length ≤ i ∧ H4 = H5) ?_ (by rw [List.length_map]; omega) ?_ ?_ ?_
        · exact ⟨[], ⟨_, rfl⟩, rfl, Nat.le_refl _, rfl⟩
        · rintro i τ acc H5 ⟨fs, ⟨t0, rfl⟩, rfl, lf, rfl⟩
          exact ⟨by rw [List.length_map]; exact lf, SqL.of h4⟩
        · rintro i y τ acc H5 C hx ⟨fs, ⟨t0, rfl⟩, rfl, lf, rfl⟩ hC
          obtain ⟨j, hj, rfl⟩ := map_get hx
          refine (zr rfl (zr rfl (.inr (zr rfl ⟨bad4.2.2.2.1, fun b0 => (zr rfl ?_)⟩))))
          cases b0 with
          | true => exact (zr rfl (hC _ _ _ ⟨fs ++ [j], ⟨_, rfl⟩, by rw [List.map_append]; rfl, by rw [List.length_append]; exact Nat.succ_le_succ lf, rfl⟩))
          | false => exact hC _ _ _ ⟨fs, ⟨_, rfl⟩, rfl, by omega, rfl⟩
        · rintro τ acc H5 ⟨fs, ⟨t0, rfl⟩, rfl, lfs, rfl⟩ lc hlc
          rw [List.length_map] at lfs
          have sm5 := sm4.trans (same_new (o := HO.lst (fs.map V.int)) hlc)
          have h50 := same_new (o := HO.lst (fs.map V.int)) hlc _ _ h40
          have h5 : (upd H4 lc (HO.lst (fs.map V.int))) lc = some (.lst (fs.map V.int)) := upd_same
          generalize upd H4 lc (HO.lst (fs.map V.int)) = H5 at sm5 h50 h5 ⊢
          refine ⟨l0, lc, zr2 rfl rfl ⟨h50, h5, by rw [List.length_map]; show 1 + fs.length ≤ sizeLine; omega, fun l3 hl3 => ?_⟩⟩
          have sm6 := sm12.trans (sm5.trans (same_new (o := HO.lst ([V.int 0] ++ fs.map V.int)) hl3))
          have h6 : (upd H5 l3 (HO.lst ([V.int 0] ++ fs.map V.int))) l3 = some (.lst ([V.int 0] ++ fs.map V.int)) := upd_same
          generalize upd H5 l3 (HO.lst ([V.int 0] ++ fs.map V.int)) = H6 at sm6 h6 ⊢
          refine ⟨l3, rfl, ⟨_, SqL.of h6⟩, ?_⟩
          refine for_list (K := K) (a := l3) (xs := [V.int 0] ++ fs.map V.int) (fun i σ H7 => i = 0 ∧ σ = [some (.ref b), some x, some (.int k), some (.int w0), some (.ref lt), some (.ref lw), none, none] ∧ H7 = H6) ⟨rfl, rfl, rfl⟩ (fun i σ H7 _ h7 => by rw [h7.2.2]; exact SqL.of h6) ?_ ?_
          · rintro i y σ H7 hx ⟨rfl, rfl, rfl⟩
            cases hx
            exact (zr rfl (zr rfl (zr rfl (zr rfl (.inr (ex8 b x _ _ rooms tr tm ps ⟨rfl, bad.same sm6, fun H8 s8 => q H8 (sm6.trans s8)⟩))))))
          · rintro σ H7 ⟨e, _⟩
            rw [List.length_append] at e
            have : 1 + _ = 0 := e
            omega
theorem sc__law_squeezed : FnScope ["_law_purse_here", "_law_book_here", "_law_found", "_law_now", "_law_ahead", "_law_wide", "_law_low", "_law_high", "_law_when", "_law_passed"] ["_law_purse_here", "_law_book_here"] (defScope s__law_squeezed) := ⟨rfl, rfl, rfl, by decide +kernel, rfl, by decide +kernel, by decide +kernel⟩
theorem ok__law_squeezed (T : Tx K mg a t_LONGEST_DAY) : FnOk P w K mg base CX0 2 a.a__law_squeezed a.d__law_squeezed ["_law_purse_here", "_law_book_here"] (spSqz) := by
  have G__law_take := @ok__law_take P w _ _ base _ _ T
  refine T.F__law_squeezed.ok sc__law_squeezed (fun vs H Q E h => ?_) (fun cdv A outer s H vs Q E hr h => ?_)
  · obtain ⟨p, b, _, _, _, _, rfl, _⟩ := h; rfl
  · have nd := sc__law_squeezed.nd
    have hu := hr.units
    obtain ⟨p, b, rooms, tr, tm, ps, rfl, hb, r6, gd, pu, q⟩ := h
    refine ⟨_, (@bl_out _ _ _ (@bl_c _ _ _ _ _ _ (ps_set (i := 2) nd rfl (by first | exact Or.inl rfl | exact Or.inr rfl) (@pe_lst _ _ _ _ pa_nil)) (@bl_c _ _ _ _ _ _ (ps_set (i := 3) nd rfl (by first | exact Or.inl rfl | exact Or.inr rfl) pe_int) (@bl_c _ _ _ _ _ _ (ps_set (i := 4) nd rfl (by first | exact Or.inl rfl | exact Or.inr rfl) pe_int) (@bl_c _ _ _ _ _ _ (ps_set (i := 5) nd rfl (by first | exact Or.inl rfl | exact Or.inr rfl) (@pe_ix _ _ _ _ _ _ _ (ix_list' rfl) (@pe_lst _ _ _ _ (@pa_out _ _ _ (@pa_c _ _ _ _ _ pe_int (@pa_c _ _ _ _ _ pe_int (@pa_c _ _ _ _ _ pe_int pa_n rfl) rfl) rfl))) (pe_call G__law_take (hr.mono (by decide)) rfl T.m__law_take T.k__law_take T.i__law_take .nil pass0 (@pa_out _ _ _ (@pa_c _ _ _ _ _ (pv 0) (@pa_c _ _ _ _ _ pe_int pa_n rfl) rfl))) (fun _ _ => rfl))) (@bl_c _ _ _ _ _ _ (ps_for PassesOwn.never rfl (@pi_tup'' _ _ _ _ _ rfl (@pe_ix _ _ _ _ _ _ _ (ix_tup' rfl) (pv 1) pe_int (fun _ _ => rfl))) (pg_tup' (n := 4) rfl rfl (pgs_cons (pg_name (i := 6) nd rfl (by first | exact Or.inl rfl | exact Or.inr rfl)) (pgs_cons (pg_name (i := 7) nd rfl (by first | exact Or.inl rfl | exact Or.inr rfl)) (pgs_cons (pg_name (i := 8) nd rfl (by first | exact Or.inl rfl | exact Or.inr rfl)) (pgs_cons (pg_name (i := 9) nd rfl (by first | exact Or.inl rfl | exact Or.inr rfl)) pgs_nil))))) (@bl_out _ _ _ (@bl_c _ _ _ _ _ _ (@ps_if _ _ _ _ _ _ _ _ (@pt_cmpR _ _ _ _ _ _ _ _ op_ne (pv 8) (pv 4) (nomark _)) (@bl_out _ _ _ (@bl_1 _ _ _ (ps_set (i := 3) nd rfl (by first | exact Or.inl rfl | exact Or.inr rfl) (@pe_op _ _ _ _ _ _ _ _ op_add (@pe_op _ _ _ _ _ _ _ _ op_add (pv 3) pe_int) (pe_call G__law_take (hr.mono (by decide)) rfl T.m__law_take T.k__law_take T.i__law_take .nil pass0 (@pa_out _ _ _ (@pa_c _ _ _ _ _ (pv 0) (@pa_c _ _ _ _ _ (pv 5) pa_n rfl) rfl))))))) pss_nil) (@bl_c _ _ _ _ _ _ (ps_set (i := 4) nd rfl (by first | exact Or.inl rfl | exact Or.inr rfl) (pv 8)) (@bl_1 _ _ _ (ps_expr (pe_bm PySem.F.plainAttrs_list PySem.F.slot_list_append PySem.F.type_list_append mt_append (pv 2) (@pa_out _ _ _ (@pa_c _ _ _ _ _ (@pe_tup _ _ _ _ _ (@pa_out _ _ _ (@pa_c _ _ _ _ _ (pv 6) (@pa_c _ _ _ _ _ (pv 7) (@pa_c _ _ _ _ _ (pv 3) (@pa_c _ _ _ _ _ (pv 9) pa_n rfl) rfl) rfl) rfl))) pa_n rfl))))))))) (@bl_1 _ _ _ (@ps_ret _ _ _ _ (@pe_tup _ _ _ _ _ (@pa_out _ _ _ (@pa_c _ _ _ _ _ (@pe_ix _ _ _ _ _ _ _ (ix_tup' rfl) (pv 1) pe_int (fun _ _ => rfl)) (@pa_c _ _ _ _ _ (pe_callTy (call_tuple_of) (by rfl) T.b_tuple PyProof.Rows.boot_tuple (@pa_out _ _ _ (@pa_c _ _ _ _ _ (pv 2) pa_n rfl))) pa_n rfl) rfl))))))))))), ?_⟩
    have line := line9
    have e200 : (2 : Int) ^ 200 > 1000000 := by decide
    have l60 := gd.len
    refine ⟨Nat.zero_le _, fun lf hlf => ?_⟩
    have npf : lf ≠ p := pu.ne hlf
    have g1 := (Go.refl pu).new (o := HO.lst []) hlf
    have hf1 : (upd H lf (HO.lst [])) lf = some (.lst []) := upd_same
    generalize upd H lf (HO.lst []) = H1 at g1 hf1 ⊢
    refine ⟨by show 3 ≤ sizeLine; omega, fun l3 hl3 => ?_⟩
    have n3p : l3 ≠ p := g1.2.ne hl3
    have g2 := g1.new (o := HO.lst [V.int 1, V.int 9, V.int 16000]) hl3
    have hf2 := same_new (o := HO.lst [V.int 1, V.int 9, V.int 16000]) hl3 _ _ hf1
    have h3 : (upd H1 l3 (HO.lst [V.int 1, V.int 9, V.int 16000])) l3 = some (.lst [V.int 1, V.int 9, V.int 16000]) := upd_same
    generalize upd H1 l3 (HO.lst [V.int 1, V.int 9, V.int 16000]) = H2 at g2 hf2 h3 ⊢
    refine (zr rfl ⟨p, 3, rfl, by decide, by decide, g2.2, fun d H3 d0 d1 g3 => ?_⟩)
    obtain ⟨wd, hwd, wd1, wd2⟩ : ∃ wd : Int, atI [V.int 1, V.int 9, V.int 16000] d = some (V.int wd) ∧ 1 ≤ wd ∧ wd ≤ 16000 := by
      obtain rfl | rfl | rfl : d = 0 ∨ d = 1 ∨ d = 2 := by omega
      · exact ⟨1, rfl, by decide, by decide⟩
      · exact ⟨9, rfl, by decide, by decide⟩
      · exact ⟨16000, rfl, by decide, by decide⟩
    have g13 := g2.trans g3
    have hf3 := g3.1 lf _ npf hf2
    refine (ixl (g3.1 l3 _ n3p h3) hwd ?_)
    have hb3 := hb.tups (g13.tups pu)
    refine (zr rfl (ixt hb3.book rfl ⟨tm, rfl, ⟨_, SqT.of hb3.meets⟩, ?_⟩))
    refine for_tup (K := K) (a := tm) (xs := ps.map fun a => V.ref a.1) (fun i σ H4 => ∃ now ahead, ∃ fs : List (Addr × M4), ∃ qs : List (M4 × M4), (∃ v6 v7 v8 v9, σ = [some (.ref p), some (.ref b), some (.ref lf), some (.int now), some (.int ahead), some (.int wd), v6, v7, v8, v9]) ∧ H4 lf = some (.lst (fs.map fun a => V.ref a.1)) ∧ RowsAt H4 fs ∧ fs.map (·.2) = qs.map (·.2) ∧ SqOk rooms.length (ps.map (·.2)) i now ahead qs ∧ Go p H H4)
      ⟨0, 0, [], [], ⟨_, _, _, _, rfl⟩, hf3, fun _ h => (nomatch h), rfl, ⟨rfl, fun _ h => (nomatch h), .nil, .inr rfl, Int.le_refl _, by omega⟩, g13⟩
      (fun i σ H4 _ h4 => by obtain ⟨_, _, _, _, _, _, _, _, _, g⟩ := h4; exact SqT.of (hb.tups (g.tups pu)).meets) ?_ ?_
    · rintro i y σ H4 hy ⟨now, ahead, fs, qs, ⟨v6, v7, v8, v9, rfl⟩, hf, hr, efs, S, g⟩
      obtain ⟨r, hr1, rfl⟩ := map_get hy
      have hi : i < ps.length := (List.getElem?_eq_some_iff.mp hr1).1
      have hm : (ps.map (·.2))[i]? = some r.2 := by rw [List.getElem?_map, hr1]; rfl
      have hb4 := hb.tups (g.tups pu)
      have hrow := hb4.rows r (List.mem_of_getElem? hr1)
      have lfs : fs.length = i := by
        have h1 := congrArg List.length efs
        have h2 := congrArg List.length S.old
        rw [List.length_map, List.length_map] at h1
        rw [List.length_map, List.length_take, List.length_map] at h2
        omega
      refine (un4 hrow ?_)
      refine (zr rfl (zr rfl ⟨rfl, zr rfl (iteN (fun σ H5 => ∃ add, σ = [some (.ref p), some (.ref b), some (.ref lf), some (.int (now + add)), some (.int ahead), some (.int wd), some (.int r.2.lo), some (.int r.2.hi), some (.int r.2.t), some (.int r.2.m)] ∧ ((r.2.t = ahead ∧ add = 0) ∨ (r.2.t ≠ ahead ∧ 1 ≤ add ∧ add ≤ 16000)) ∧ H5 lf = some (.lst (fs.map fun a => V.ref a.1)) ∧ RowsAt H5 fs ∧ Go p H H5) ?_ (fun c k0 => ?_) (fun c => ?_))⟩))
      · rintro σ H5 ⟨add, rfl, hadd, hf5, hr5, g5⟩
        refine (zr rfl (zr rfl ⟨.inl ⟨rfl, _, SqL.of hf5⟩, zr rfl (zr rfl (zr rfl (zr rfl ⟨by show 4 ≤ sizeLine; omega, fun t ht => ?_⟩)))⟩))
        have hf6 := same_new (o := HO.tup [V.int r.2.lo, V.int r.2.hi, V.int (now + add), V.int r.2.m]) ht _ _ hf5
        have hr6 : RowsAt (upd H5 t (HO.tup [V.int r.2.lo, V.int r.2.hi, V.int (now + add), V.int r.2.m])) fs := fun a ha => same_new ht _ _ (hr5 a ha)
        have ht6 : (upd H5 t (HO.tup [V.int r.2.lo, V.int r.2.hi, V.int (now + add), V.int r.2.m])) t = some (.tup [V.int r.2.lo, V.int r.2.hi, V.int (now + add), V.int r.2.m]) := upd_same
        have g6 := g5.new (o := HO.tup [V.int r.2.lo, V.int r.2.hi, V.int (now + add), V.int r.2.m]) ht
        generalize upd H5 t (HO.tup [V.int r.2.lo, V.int r.2.hi, V.int (now + add), V.int r.2.m]) = H6 at hf6 hr6 ht6 g6 ⊢
        refine ⟨lf, zr2 rfl rfl ⟨hf6, by rw [List.length_map]; omega, ?_⟩⟩
        refine ⟨now + add, r.2.t, fs ++ [(t, ⟨r.2.lo, r.2.hi, now + add, r.2.m⟩)], qs ++ [(r.2, ⟨r.2.lo, r.2.hi, now + add, r.2.m⟩)], ⟨_, _, _, _, rfl⟩, by rw [upd_same, List.map_append]; rfl, fun a ha => ?_, by rw [List.map_append, List.map_append, efs]; rfl, S.step gd hm hadd, g6.put hlf npf⟩
        rcases List.mem_append.mp ha with h | h
        · exact Tups.set hf6 _ _ (hr6 a h)
        · cases List.mem_singleton.mp h
          exact Tups.set hf6 _ _ ht6
      · refine (zr rfl (zr2 rfl rfl (zr rfl (zr rfl ⟨p, wd, rfl, by omega, by omega, g.2, fun d4 H5 d40 d41 g5 => (zr2 rfl rfl ?_)⟩))))
        refine k0 _ _ ⟨1 + d4, ?_, .inr ⟨fun e => ?_, by omega, by omega⟩, g5.1 lf _ npf hf, fun a ha => g5.tups g.2 _ _ (hr a ha), g.trans g5⟩
        · rw [← Int.add_assoc]; rfl
        · rw [e] at c; simp at c
      · refine ⟨0, by rw [Int.add_zero]; rfl, .inl ⟨?_, rfl⟩, hf, hr, g⟩
        have : V.int r.2.t = V.int ahead := by simpa using c
        exact V.int.inj this
    · rintro σ H4 ⟨now, ahead, fs, qs, ⟨v6, v7, v8, v9, rfl⟩, hf, hr, efs, S, g⟩
      have hb4 := hb.tups (g.tups pu)
      have el : (ps.map fun a => V.ref a.1).length = (ps.map (·.2)).length := by rw [List.length_map, List.length_map]
      rw [el] at S
      obtain ⟨gd2, m6⟩ := S.good gd
      rw [← efs] at gd2 m6
      refine (zr rfl (ixt hb4.book rfl (zr rfl ⟨lf, zr rfl (.inl ⟨SqL.of hf, fun t ht => ⟨by show 2 ≤ sizeLine; omega, fun b' hb' => ?_⟩⟩)⟩)))
      have tn := Tups.trans (Tups.new (o := HO.tup (fs.map fun a => V.ref a.1)) ht) (Tups.new (o := HO.tup [V.ref tr, V.ref t]) hb')
      exact q b' t fs _ ((g.new ht).new hb') ⟨upd_same, tn _ _ hb4.rooms, same_new hb' _ _ upd_same, fun a ha => tn _ _ (hr a ha)⟩ gd2 m6
theorem sc__law_day : FnScope ["_law_purse_here", "_law_book_here", "_law_least"] ["_law_purse_here", "_law_book_here"] (defScope s__law_day) := ⟨rfl, rfl, rfl, by decide +kernel, rfl, by decide +kernel, by decide +kernel⟩
theorem ok__law_day (T : Tx K mg a t_LONGEST_DAY) : FnOk P w K mg base CX0 2 a.a__law_day a.d__law_day ["_law_purse_here", "_law_book_here"] (spDayOf) := by
  have G__law_take := @ok__law_take P w _ _ base _ _ T
  refine T.F__law_day.ok sc__law_day (fun vs H Q E h => ?_) (fun cdv A outer s H vs Q E hr h => ?_)
  · obtain ⟨p, b, _, _, _, _, rfl, _⟩ := h; rfl
  · have nd := sc__law_day.nd
    have hu := hr.units
    obtain ⟨p, b, rooms, tr, tm, ps, rfl, hb, gd, m6, pu, q⟩ := h
    refine ⟨_, (@bl_out _ _ _ (@bl_c _ _ _ _ _ _ (ps_set (i := 2) nd rfl (by first | exact Or.inl rfl | exact Or.inr rfl) pe_int) (@bl_c _ _ _ _ _ _ (@ps_if _ _ _ _ _ _ _ _ (@pt_cmpR _ _ _ _ _ _ _ _ (op_neUnit hu) (@pe_ix _ _ _ _ _ _ _ (ix_tup' rfl) (pv 1) pe_int (fun _ _ => rfl)) (@pe_tup _ _ _ _ _ pa_nil) (nomark _)) (@bl_out _ _ _ (@bl_1 _ _ _ (ps_set (i := 2) nd rfl (by first | exact Or.inl rfl | exact Or.inr rfl) (@pe_ix _ _ _ _ _ _ _ (ix_tup' rfl) (@pe_ix _ _ _ _ _ _ _ (ix_tup' rfl) (@pe_ix _ _ _ _ _ _ _ (ix_tup' rfl) (pv 1) pe_int (fun _ _ => rfl)) (@pe_un _ _ _ _ _ _ un_neg pe_int) (fun _ _ => rfl)) pe_int (fun _ _ => rfl))))) pss_nil) (@bl_1 _ _ _ (@ps_ret _ _ _ _ (pe_callB (call_min2 rfl) (by rfl) T.b_min PyProof.Rows.boot_min (@pa_out _ _ _ (@pa_c _ _ _ _ _ (@pe_op _ _ _ _ _ _ _ _ op_pow pe_int pe_int) (@pa_c _ _ _ _ _ (@pe_op _ _ _ _ _ _ _ _ op_add (pv 2) (@pe_ix _ _ _ _ _ _ _ (ix_list' rfl) (@pe_lst _ _ _ _ (@pa_out _ _ _ (@pa_c _ _ _ _ _ pe_int (@pa_c _ _ _ _ _ pe_int (@pa_c _ _ _ _ _ (@pe_op _ _ _ _ _ _ _ _ op_pow pe_int pe_int) (@pa_c _ _ _ _ _ (pe_call G__law_take (hr.mono (by decide)) rfl T.m__law_take T.k__law_take T.i__law_take .nil pass0 (@pa_out _ _ _ (@pa_c _ _ _ _ _ (pv 0) (@pa_c _ _ _ _ _ pe_int pa_n rfl) rfl))) pa_n rfl) rfl) rfl) rfl))) (pe_call G__law_take (hr.mono (by decide)) rfl T.m__law_take T.k__law_take T.i__law_take .nil pass0 (@pa_out _ _ _ (@pa_c _ _ _ _ _ (pv 0) (@pa_c _ _ _ _ _ pe_int pa_n rfl) rfl))) (fun _ _ => rfl))) pa_n rfl) rfl)))))))), ?_⟩
    have line := line9
    have c6 : CPow 10 6 := ⟨by decide, by decide, by decide⟩
    have e6 : (10 : Int) ^ Int.toNat 6 = 1000000 := by decide
    refine (zr rfl (ixt hb.book rfl ⟨Nat.zero_le _, fun u hu2 => ?_⟩))
    have hb1 := hb.tups (Tups.new (o := HO.tup []) hu2)
    have g1 := (Go.refl pu).new (o := HO.tup []) hu2
    have hu1 : (upd H u (HO.tup [])) u = some (.tup []) := upd_same
    generalize upd H u (HO.tup []) = H1 at hb1 g1 hu1 ⊢
    refine ⟨tm, u, zr rfl ⟨rfl, SqT.of hb1.meets, SqT.of hu1, zr rfl (iteN (fun σ H5 => ∃ least, σ = [some (.ref p), some (.ref b), some (.int least)] ∧ 1 ≤ least ∧ least ≤ 1000000 ∧ (∀ m ∈ ps.map (·.2), m.t ≤ least) ∧ Go p H H5) ?_ (fun c k0 => ?_) (fun c => ?_))⟩⟩
    · rintro σ H5 ⟨least, rfl, le1, le6, hle, g5⟩
      refine (zr2 rfl rfl ⟨c6, zr rfl (zr2 rfl rfl ⟨c6, zr rfl ⟨p, 9, rfl, by decide, by decide, g5.2, fun d9 H6 d90 d91 g6 => ⟨by show 4 ≤ sizeLine; omega, fun l hl => ?_⟩⟩⟩)⟩)
      have npl : l ≠ p := g6.2.ne hl
      have g7 := (g5.trans g6).new (o := HO.lst [V.int 0, V.int 1, V.int (10 ^ Int.toNat 6), V.int d9]) hl
      have h7 : (upd H6 l (HO.lst [V.int 0, V.int 1, V.int (10 ^ Int.toNat 6), V.int d9])) l = some (.lst [V.int 0, V.int 1, V.int (10 ^ Int.toNat 6), V.int d9]) := upd_same
      generalize upd H6 l (HO.lst [V.int 0, V.int 1, V.int (10 ^ Int.toNat 6), V.int d9]) = H7 at g7 h7 ⊢
      refine (zr rfl ⟨p, 4, rfl, by decide, by decide, g7.2, fun d H8 d0 d1 g8 => ?_⟩)
      obtain ⟨v, hv, v0⟩ : ∃ v : Int, atI [V.int 0, V.int 1, V.int (10 ^ Int.toNat 6), V.int d9] d = some (V.int v) ∧ 0 ≤ v := by
        obtain rfl | rfl | rfl | rfl : d = 0 ∨ d = 1 ∨ d = 2 ∨ d = 3 := by omega
        · exact ⟨0, rfl, by decide⟩
        · exact ⟨1, rfl, by decide⟩
        · exact (zr rfl (by decide))
        · exact ⟨d9, rfl, d90⟩
      refine (ixl (g8.1 l _ npl h7) hv (zr2 rfl rfl (zr1 rfl ?_)))
      rw [e6]
      refine q _ _ (g7.trans g8) ?_ ?_ fun m hm => ?_
      · split <;> omega
      · split <;> omega
      · have h1 := hle m hm
        have h2 := m6 m hm
        split <;> omega
    · have hp : ps ≠ [] := fun e => by rw [e] at c; cases c
      obtain ⟨r, hr⟩ : ∃ r, ps.getLast? = some r := ⟨_, List.getLast?_eq_getLast hp⟩
      have rm : r ∈ ps := List.mem_of_getLast? hr
      have hrow := hb1.rows r rm
      obtain ⟨a1, a2, a3, a4, a5, _⟩ := gd.at rm
      refine (zr rfl (ixt hb1.book rfl (zr rfl (ixt hb1.meets (atI_last (v := V.ref r.1) (by rw [List.getLast?_map, hr]; rfl)) (ixt hrow rfl ?_)))))
      refine k0 _ _ ⟨r.2.t, rfl, a4, m6 r.2 (List.mem_map.mpr ⟨r, rm, rfl⟩), fun m hm => ?_, g1⟩
      exact last_most gd.ord.2 (by rw [List.getLast?_map, hr]; rfl) hm
    · have hp : ps = [] := by
        cases ps with
        | nil => rfl
        | cons _ _ => cases c
      subst hp
      exact ⟨1, rfl, by decide, by decide, fun _ h => (nomatch h), g1⟩
theorem sc__law_since : FnScope ["_law_purse_here", "_law_book_here", "_law_day_here", "_law_way", "_law_found", "_law_at"] ["_law_purse_here", "_law_book_here", "_law_day_here"] (defScope s__law_since) := ⟨rfl, rfl, rfl, by decide +kernel, rfl, by decide +kernel, by decide +kernel⟩
theorem ok__law_since (T : Tx K mg a t_LONGEST_DAY) : FnOk P w K mg base CX0 3 a.a__law_since a.d__law_since ["_law_purse_here", "_law_book_here", "_law_day_here"] (spSince67) := by
  have G__law_take := @ok__law_take P w _ _ base _ _ T
  have G__law_far := @ok__law_far P w _ _ base _ _ T
  refine T.F__law_since.ok sc__law_since (fun vs H Q E h => ?_) (fun cdv A outer s H vs Q E hr h => ?_)
  · obtain ⟨p, b, day, _, _, _, _, rfl, _⟩ := h; rfl
  · have nd := sc__law_since.nd
    have hu := hr.units
    obtain ⟨p, b, day, rooms, tr, tm, ps, rfl, hb, gd, m6, d1, d6, pu, q⟩ := h
    refine ⟨_, (@bl_out _ _ _ (@bl_c _ _ _ _ _ _ (ps_set (i := 3) nd rfl (by first | exact Or.inl rfl | exact Or.inr rfl) (pe_call G__law_take (hr.mono (by decide)) rfl T.m__law_take T.k__law_take T.i__law_take .nil pass0 (@pa_out _ _ _ (@pa_c _ _ _ _ _ (pv 0) (@pa_c _ _ _ _ _ pe_int pa_n rfl) rfl)))) (@bl_c _ _ _ _ _ _ (@ps_if _ _ _ _ _ _ _ _ (@pt_cmpR _ _ _ _ _ _ _ _ op_eq (pv 3) pe_int (nomark _)) (@bl_out _ _ _ (@bl_1 _ _ _ (@ps_ret _ _ _ _ (@pe_ix _ _ _ _ _ _ _ (ix_list' rfl) (@pe_lst _ _ _ _ (@pa_out _ _ _ (@pa_c _ _ _ _ _ pe_int (@pa_c _ _ _ _ _ (@pe_op _ _ _ _ _ _ _ _ op_pow pe_int pe_int) pa_n rfl) rfl))) (@pe_op _ _ _ _ _ _ _ _ op_fdivB (pe_call G__law_take (hr.mono (by decide)) rfl T.m__law_take T.k__law_take T.i__law_take .nil pass0 (@pa_out _ _ _ (@pa_c _ _ _ _ _ (pv 0) (@pa_c _ _ _ _ _ pe_int pa_n rfl) rfl))) pe_int) (fun _ _ => rfl))))) pss_nil) (@bl_c _ _ _ _ _ _ (@ps_if _ _ _ _ _ _ _ _ (@pt_cmpR _ _ _ _ _ _ _ _ op_eq (pv 3) pe_int (nomark _)) (@bl_out _ _ _ (@bl_1 _ _ _ (@ps_ret _ _ _ _ (pe_call G__law_far (hr.mono (by decide)) rfl T.m__law_far T.k__law_far T.i__law_far .nil pass0 (@pa_out _ _ _ (@pa_c _ _ _ _ _ (pv 0) pa_n rfl)))))) pss_nil) (@bl_c _ _ _ _ _ _ (ps_set (i := 4) nd rfl (by first | exact Or.inl rfl | exact Or.inr rfl) (@pe_op _ _ _ _ _ _ _ _ op_mul (pe_call G__law_take (hr.mono (by decide)) rfl T.m__law_take T.k__law_take T.i__law_take .nil pass0 (@pa_out _ _ _ (@pa_c _ _ _ _ _ (pv 0) (@pa_c _ _ _ _ _ pe_int pa_n rfl) rfl))) (pv 2))) (@bl_c _ _ _ _ _ _ (@ps_if _ _ _ _ _ _ _ _ (@PW.pt _ _ _ (@pw_or _ _ _ _ _ _ _ (@pt_cmpR _ _ _ _ _ _ _ _ op_eq (pv 3) pe_int (nomark _)) (@pw_or1 _ _ _ _ (@pt_cmpR _ _ _ _ _ _ _ _ (op_eqUnit hu) (@pe_ix _ _ _ _ _ _ _ (ix_tup' rfl) (pv 1) pe_int (fun _ _ => rfl)) (@pe_tup _ _ _ _ _ pa_nil) (nomark _))))) (@bl_out _ _ _ (@bl_1 _ _ _ (@ps_ret _ _ _ _ (pe_callB (call_max2 rfl) (by rfl) T.b_max PyProof.Rows.boot_max (@pa_out _ _ _ (@pa_c _ _ _ _ _ pe_int (@pa_c _ _ _ _ _ (@pe_op _ _ _ _ _ _ _ _ op_sub (pv 4) (pe_call G__law_take (hr.mono (by decide)) rfl T.m__law_take T.k__law_take T.i__law_take .nil pass0 (@pa_out _ _ _ (@pa_c _ _ _ _ _ (pv 0) (@pa_c _ _ _ _ _ pe_int pa_n rfl) rfl)))) pa_n rfl) rfl)))))) pss_nil) (@bl_c _ _ _ _ _ _ (ps_set (i := 5) nd rfl (by first | exact Or.inl rfl | exact Or.inr rfl) (pe_call G__law_take (hr.mono (by decide)) rfl T.m__law_take T.k__law_take T.i__law_take .nil pass0 (@pa_out _ _ _ (@pa_c _ _ _ _ _ (pv 0) (@pa_c _ _ _ _ _ (pe_callB (call_len_seq' rfl) (by rfl) T.b_len PySem.boot_len (@pa_out _ _ _ (@pa_c _ _ _ _ _ (@pe_ix _ _ _ _ _ _ _ (ix_tup' rfl) (pv 1) pe_int (fun _ _ => rfl)) pa_n rfl))) pa_n rfl) rfl)))) (@bl_1 _ _ _ (@ps_ret _ _ _ _ (@pe_op _ _ _ _ _ _ _ _ op_sub (@pe_op _ _ _ _ _ _ _ _ op_add (pv 4) (@pe_ix _ _ _ _ _ _ _ (ix_tup' rfl) (@pe_ix _ _ _ _ _ _ _ (ix_tup' rfl) (@pe_ix _ _ _ _ _ _ _ (ix_tup' rfl) (pv 1) pe_int (fun _ _ => rfl)) (pv 5) (fun _ _ => rfl)) pe_int (fun _ _ => rfl))) (pe_call G__law_take (hr.mono (by decide)) rfl T.m__law_take T.k__law_take T.i__law_take .nil pass0 (@pa_out _ _ _ (@pa_c _ _ _ _ _ (pv 0) (@pa_c _ _ _ _ _ pe_int pa_n rfl) rfl))))))))))))), ?_⟩
    have line := line9
    have e200 : (2 : Int) ^ 200 > 10000 := by decide
    have c9 : CPow 10 9 := ⟨by decide, by decide, by decide⟩
    have e9 : (10 : Int) ^ Int.toNat 9 = 1000000000 := by decide
    have l60 := gd.len
    refine (zr rfl ⟨p, zr rfl ⟨by decide, by decide, pu, fun way H1 w0 w1 g1 => ?_⟩⟩)
    refine (zr rfl ⟨rfl, zr rfl (iteD (fun c => ?_) (fun c => (zr rfl ⟨rfl, zr rfl (iteD (fun c => ?_) (fun c => ?_))⟩)))⟩)
    · refine (zr2 rfl rfl ⟨c9, by show 2 ≤ sizeLine; omega, fun l hl => ?_⟩)
      have npl : l ≠ p := g1.2.ne hl
      have g2 := g1.new (o := HO.lst [V.int 0, V.int (10 ^ Int.toNat 9)]) hl
      have h2 : (upd H1 l (HO.lst [V.int 0, V.int (10 ^ Int.toNat 9)])) l = some (.lst [V.int 0, V.int (10 ^ Int.toNat 9)]) := upd_same
      generalize upd H1 l (HO.lst [V.int 0, V.int (10 ^ Int.toNat 9)]) = H2 at g2 h2 ⊢
      refine (zr rfl ⟨p, 4, rfl, by decide, by decide, g2.2, fun d H3 d0 d1 g3 => (zr2 rfl rfl ⟨⟨by decide, by decide⟩, ?_⟩)⟩)
      obtain ⟨v, hv, v0, v9⟩ : ∃ v : Int, atI [V.int 0, V.int (10 ^ Int.toNat 9)] (d / 3) = some (V.int v) ∧ 0 ≤ v ∧ v ≤ 1000000000 := by
        obtain e | e : d / 3 = 0 ∨ d / 3 = 1 := by omega
        · exact ⟨0, by rw [e]; rfl, by decide, by decide⟩
        · exact ⟨_, by rw [e]; rfl, by decide, by decide⟩
      exact (ixl (g3.1 l _ npl h2) hv (q _ _ (g2.trans g3) v0 v9))
    · exact (zr rfl ⟨p, rfl, g1.2, fun d H2 d0 d1 g2 => q _ _ (g1.trans g2) d0 d1⟩)
    refine (zr rfl ⟨p, 4, rfl, by decide, by decide, g1.2, fun f H2 f0 f1 g2 => (zr rfl (zr2 rfl rfl ⟨.inr ⟨by omega, by omega⟩, ?_⟩))⟩)
    have g12 := g1.trans g2
    have F0 : 0 ≤ f * day := Int.mul_nonneg f0 (by omega)
    have F9 : f * day ≤ 4000000 := by
      have := Int.mul_le_mul (show f ≤ 4 by omega) d6 (by omega) (by omega)
      omega
    have hb2 := hb.tups (g12.tups pu)
    have fin : ∀ (t : Int), 0 ≤ t → t < 2 → (0 : Int) ≤ (if f * day - t > 0 then f * day - t else 0) ∧ (if f * day - t > 0 then f * day - t else 0) ≤ 1000000000 := fun t t0 t1 => by split <;> omega
    refine (zr rfl ⟨rfl, zr rfl (iteD (fun c => ?_) (fun c => ?_))⟩)
    · exact (zr rfl (zr rfl ⟨p, 2, rfl, by decide, by decide, g12.2, fun t H5 t0 t1 g5 => (zr2 rfl rfl (zr1 rfl (q _ _ (g12.trans g5) (fin t t0 t1).1 (fin t t0 t1).2)))⟩))
    · refine (zr rfl (ixt hb2.book rfl ⟨Nat.zero_le _, fun u hu2 => ?_⟩))
      have hb3 := hb2.tups (Tups.new (o := HO.tup []) hu2)
      have g3 := g12.new (o := HO.tup []) hu2
      have hu1 : (upd H2 u (HO.tup [])) u = some (.tup []) := upd_same
      generalize upd H2 u (HO.tup []) = H3 at hb3 g3 hu1 ⊢
      refine ⟨tm, u, zr rfl ⟨rfl, SqT.of hb3.meets, SqT.of hu1, zr rfl (iteB (fun c2 => ?_) (fun c2 => ?_))⟩⟩
      · exact (zr rfl (zr rfl ⟨p, 2, rfl, by decide, by decide, g3.2, fun t H5 t0 t1 g5 => (zr2 rfl rfl (zr1 rfl (q _ _ (g3.trans g5) (fin t t0 t1).1 (fin t t0 t1).2)))⟩))
      · have lps : 1 ≤ ps.length := by
          cases ps with
          | nil => cases c2
          | cons _ _ => simp
        refine (zr rfl (zr rfl (ixt hb3.book rfl ⟨tm, zr rfl ⟨.inr (SqT.of hb3.meets), p, zr rfl ⟨by rw [List.length_map]; omega, by rw [List.length_map]; omega, g3.2, fun at' H4 a0 a1 g4 => ?_⟩⟩⟩)))
        rw [List.length_map] at a1
        obtain ⟨k, rfl⟩ := Int.eq_ofNat_of_zero_le a0
        have hk : k < ps.length := by omega
        have hb4 := hb3.tups (g4.tups g3.2)
        have hrow := hb4.rows _ (List.getElem_mem hk)
        obtain ⟨b1, b2, b3, b4, b5, _⟩ := gd.at (List.getElem_mem hk)
        have b6 := m6 _ (List.mem_map.mpr ⟨ps[k], List.getElem_mem hk, rfl⟩)
        refine (zr rfl (zr rfl (ixt hb4.book rfl (zr rfl (ixt hb4.meets (atI_nat (v := V.ref ps[k].1) (by simp [hk])) (ixt hrow rfl (zr2 rfl rfl (zr rfl ⟨p, 2, rfl, by decide, by decide, g4.2, fun t H5 t0 t1 g5 => (zr2 rfl rfl (q _ _ (g3.trans (g4.trans g5)) (by omega) (by omega)))⟩))))))))
theorem sc__law_none : FnScope ["_law_purse_here", "_law_book_here", "_law_way"] ["_law_purse_here", "_law_book_here"] (defScope s__law_none) := ⟨rfl, rfl, rfl, by decide +kernel, rfl, by decide +kernel, by decide +kernel⟩
theorem ok__law_none (T : Tx K mg a t_LONGEST_DAY) : FnOk P w K mg base CX0 2 a.a__law_none a.d__law_none ["_law_purse_here", "_law_book_here"] (spNone65 K) := by
  have G__law_take := @ok__law_take P w _ _ base _ _ T
  refine T.F__law_none.ok sc__law_none (fun vs H Q E h => ?_) (fun cdv A outer s H vs Q E hr h => ?_)
  · obtain ⟨_, _, _, _, _, _, rfl, _⟩ := h; rfl
  · have nd := sc__law_none.nd
    have hu := hr.units
    obtain ⟨p, b, rooms, tr, tm, ps, rfl, hb, gd, m6, pu, q⟩ := h
    refine ⟨_, (@bl_out _ _ _ (@bl_c _ _ _ _ _ _ (ps_set (i := 2) nd rfl (by first | exact Or.inl rfl | exact Or.inr rfl) (pe_call G__law_take (hr.mono (by decide)) rfl T.m__law_take T.k__law_take T.i__law_take .nil pass0 (@pa_out _ _ _ (@pa_c _ _ _ _ _ (pv 0) (@pa_c _ _ _ _ _ pe_int pa_n rfl) rfl)))) (@bl_c _ _ _ _ _ _ (@ps_if _ _ _ _ _ _ _ _ (@PW.pt _ _ _ (@pw_and _ _ _ _ _ _ _ (@pt_cmpR _ _ _ _ _ _ _ _ op_gt (pv 2) pe_int (nomark _)) (@pw_and1 _ _ _ _ (@pt_cmpR _ _ _ _ _ _ _ _ (op_neUnit hu) (@pe_ix _ _ _ _ _ _ _ (ix_tup' rfl) (pv 1) pe_int (fun _ _ => rfl)) (@pe_tup _ _ _ _ _ pa_nil) (nomark _))))) (@bl_out _ _ _ (@bl_1 _ _ _ (@ps_ret _ _ _ _ (@pe_op _ _ _ _ _ _ _ _ op_sub (@pe_op _ _ _ _ _ _ _ _ op_sub (@pe_ix _ _ _ _ _ _ _ (ix_tup' rfl) (@pe_ix _ _ _ _ _ _ _ (ix_tup' rfl) (@pe_ix _ _ _ _ _ _ _ (ix_tup' rfl) (pv 1) pe_int (fun _ _ => rfl)) (pe_call G__law_take (hr.mono (by decide)) rfl T.m__law_take T.k__law_take T.i__law_take .nil pass0 (@pa_out _ _ _ (@pa_c _ _ _ _ _ (pv 0) (@pa_c _ _ _ _ _ (pe_callB (call_len_seq' rfl) (by rfl) T.b_len PySem.boot_len (@pa_out _ _ _ (@pa_c _ _ _ _ _ (@pe_ix _ _ _ _ _ _ _ (ix_tup' rfl) (pv 1) pe_int (fun _ _ => rfl)) pa_n rfl))) pa_n rfl) rfl))) (fun _ _ => rfl)) pe_int (fun _ _ => rfl)) pe_int) (@pe_op _ _ _ _ _ _ _ _ op_mul (@pe_op _ _ _ _ _ _ _ _ op_sub (@pe_ix _ _ _ _ _ _ _ (ix_tup' rfl) (@pe_ix _ _ _ _ _ _ _ (ix_tup' rfl) (@pe_ix _ _ _ _ _ _ _ (ix_tup' rfl) (pv 1) pe_int (fun _ _ => rfl)) (@pe_un _ _ _ _ _ _ un_neg pe_int) (fun _ _ => rfl)) pe_int (fun _ _ => rfl)) (@pe_ix _ _ _ _ _ _ _ (ix_tup' rfl) (@pe_ix _ _ _ _ _ _ _ (ix_tup' rfl) (@pe_ix _ _ _ _ _ _ _ (ix_tup' rfl) (pv 1) pe_int (fun _ _ => rfl)) pe_int (fun _ _ => rfl)) pe_int (fun _ _ => rfl))) (pe_callTy (call_int1) (by rfl) T.b_int PyProof.Rows.boot_int (@pa_out _ _ _ (@pa_c _ _ _ _ _ (@pe_cmpR _ _ _ _ _ _ _ _ op_eq (pv 2) pe_int (nomark _)) pa_n rfl)))))))) pss_nil) (@bl_1 _ _ _ (@ps_ret _ _ _ _ (@pe_ix _ _ _ _ _ _ _ (ix_list' rfl) (@pe_lst _ _ _ _ (@pa_out _ _ _ (@pa_c _ _ _ _ _ pe_int (@pa_c _ _ _ _ _ (@pe_un _ _ _ _ _ _ un_neg pe_int) (@pa_c _ _ _ _ _ (@pe_op _ _ _ _ _ _ _ _ op_add (@pe_op _ _ _ _ _ _ _ _ op_pow pe_int pe_int) pe_int) (@pa_c _ _ _ _ _ (@pe_op _ _ _ _ _ _ _ _ op_pow pe_int pe_int) (@pa_c _ _ _ _ _ pe_bl (@pa_c _ _ _ _ _ pe_bl (@pa_c _ _ _ _ _ pe_non (@pa_c _ _ _ _ _ pe_str (@pa_c _ _ _ _ _ (@pe_lst _ _ _ _ (@pa_out _ _ _ (@pa_c _ _ _ _ _ pe_int pa_n rfl))) (@pa_c _ _ _ _ _ (@pe_tup _ _ _ _ _ (@pa_out _ _ _ (@pa_c _ _ _ _ _ pe_int pa_n rfl))) (@pa_c _ _ _ _ _ (@pe_op _ _ _ _ _ _ _ _ op_sub pe_int (@pe_op _ _ _ _ _ _ _ _ op_pow pe_int pe_int)) (@pa_c _ _ _ _ _ pe_str pa_n rfl) rfl) rfl) rfl) rfl) rfl) rfl) rfl) rfl) rfl) rfl) rfl))) (pv 2) (fun _ _ => rfl))))))), ?_⟩
    have line := line9
    have n60 := gd.len
    have lpr : (ps.map fun a => V.ref a.1).length = ps.length := List.length_map ..
    have c6 : CPow 10 6 := ⟨by decide, by decide, by decide⟩
    have c30 : CPow 10 30 := ⟨by decide, by decide, by decide⟩
    refine (zr rfl ⟨p, 12, rfl, by decide, by decide, pu, fun d H1 d0 d1 g1 => ?_⟩)
    have hb1 := hb.tups (g1.tups pu)
    refine (zr rfl (zr2 rfl rfl (zr rfl (iteA (fun σ H5 => σ = [some (.ref p), some (.ref b), some (.int d)] ∧ Go p H H5) ?_ (fun _ k0 => ?_) (fun _ => ⟨rfl, g1⟩)))))
    · rintro σ H5 ⟨rfl, g5⟩
      have hb5 := hb.tups (g5.tups pu)
      refine (zr rfl (zr2 rfl rfl ⟨c6, zr2 rfl rfl (zr2 rfl rfl ⟨c30, by show 1 ≤ sizeLine; omega, fun l1 hl1 => ⟨by show 1 ≤ sizeLine; omega, fun t1 ht1 => (zr2 rfl rfl ⟨c30, zr2 rfl rfl ⟨by show 12 ≤ sizeLine; omega, fun l hl => (zr rfl ?_)⟩⟩)⟩⟩)⟩))
      have k1 := same_new (o := HO.lst [V.int 9]) hl1
      have e1 : upd H5 l1 (HO.lst [V.int 9]) l1 = some (.lst [V.int 9]) := upd_same
      generalize upd H5 l1 (HO.lst [V.int 9]) = H6 at *
      have k2 := same_new (o := HO.tup [V.int 9]) ht1
      have e2 : upd H6 t1 (HO.tup [V.int 9]) t1 = some (.tup [V.int 9]) := upd_same
      generalize upd H6 t1 (HO.tup [V.int 9]) = H7 at *
      have k3 := same_new (o := HO.lst [V.int 0, V.int (-1), V.int (10 ^ Int.toNat 6 + 1), V.int (10 ^ Int.toNat 30), V.bl true, V.bl false, V.non, V.str "9", V.ref l1, V.ref t1, V.int (0 - 10 ^ Int.toNat 30), V.str ""]) hl
      have fin : ∀ y, (∃ ty, tyS (upd H7 l (HO.lst [V.int 0, V.int (-1), V.int (10 ^ Int.toNat 6 + 1), V.int (10 ^ Int.toNat 30), V.bl true, V.bl false, V.non, V.str "9", V.ref l1, V.ref t1, V.int (0 - 10 ^ Int.toNat 30), V.str ""])) y = some ty) → oddV K (upd H7 l (HO.lst [V.int 0, V.int (-1), V.int (10 ^ Int.toNat 6 + 1), V.int (10 ^ Int.toNat 30), V.bl true, V.bl false, V.non, V.str "9", V.ref l1, V.ref t1, V.int (0 - 10 ^ Int.toNat 30), V.str ""])) y → inB 1 1000000 y = false → Q y (upd H7 l (HO.lst [V.int 0, V.int (-1), V.int (10 ^ Int.toNat 6 + 1), V.int (10 ^ Int.toNat 30), V.bl true, V.bl false, V.non, V.str "9", V.ref l1, V.ref t1, V.int (0 - 10 ^ Int.toNat 30), V.str ""])) := fun y h1 h2 h3 => by
        have s7 := (k1.trans k2).trans k3
        refine q y _ ⟨fun x u n e => s7 _ _ (g5.1 x u n e), ?_⟩ ⟨(hb5.same s7), gd, h1, h2, .inl h3⟩
        exact g5.2.same s7
      rcases (by omega : d = 0 ∨ d = 1 ∨ d = 2 ∨ d = 3 ∨ d = 4 ∨ d = 5 ∨ d = 6 ∨ d = 7 ∨ d = 8 ∨ d = 9 ∨ d = 10 ∨ d = 11) with rfl | rfl | rfl | rfl | rfl | rfl | rfl | rfl | rfl | rfl | rfl | rfl
      · exact (ixl upd_same rfl (fin _ ⟨_, rfl⟩ trivial (by decide)))
      · exact (ixl upd_same rfl (fin _ ⟨_, rfl⟩ trivial (by decide)))
      · exact (ixl upd_same rfl (fin _ ⟨_, rfl⟩ trivial (by decide)))
      · exact (ixl upd_same rfl (fin _ ⟨_, rfl⟩ trivial (by decide)))
      · exact (ixl upd_same rfl (fin _ ⟨_, rfl⟩ trivial rfl))
      · exact (ixl upd_same rfl (fin _ ⟨_, rfl⟩ trivial rfl))
      · exact (ixl upd_same rfl (fin _ ⟨_, rfl⟩ trivial rfl))
      · exact (ixl upd_same rfl (fin _ ⟨_, rfl⟩ trivial rfl))
      · exact (ixl upd_same rfl (fin _ ⟨_, tyS_lst (k3 _ _ (k2 _ _ e1))⟩ (.inl ⟨_, k3 _ _ (k2 _ _ e1)⟩) rfl))
      · exact (ixl upd_same rfl (fin _ ⟨_, tyS_tup (k3 _ _ e2)⟩ (.inr ⟨_, k3 _ _ e2⟩) rfl))
      · exact (ixl upd_same rfl (fin _ ⟨_, rfl⟩ trivial (by decide)))
      · exact (ixl upd_same rfl (fin _ ⟨_, rfl⟩ trivial rfl))
    · refine (zr rfl (ixt hb1.book rfl ⟨Nat.zero_le _, fun u hu2 => ?_⟩))
      have g2 := g1.new (o := HO.tup []) hu2
      have hb2 := hb1.tups (Tups.new (o := HO.tup []) hu2)
      have hu1 : (upd H1 u (HO.tup [])) u = some (.tup []) := upd_same
      generalize upd H1 u (HO.tup []) = H2 at g2 hb2 hu1 ⊢
      refine ⟨tm, u, zr rfl ⟨rfl, SqT.of hb2.meets, SqT.of hu1, zr rfl (iteB (fun c => ?_) (fun _ => k0 _ _ ⟨rfl, g2⟩))⟩⟩
      have hp : ps ≠ [] := fun e => by rw [e] at c; cases c
      have lp : 0 < ps.length := List.length_pos_iff.mpr hp
      refine (zr rfl (ixt hb2.book rfl (zr rfl (zr rfl (ixt hb2.book rfl ⟨tm, zr rfl ⟨.inr (SqT.of hb2.meets), p, zr rfl ⟨by rw [lpr]; omega, by rw [lpr]; omega, g2.2, fun j H3 j0 j1 g3 => ?_⟩⟩⟩)))))
      rw [lpr] at j1
      obtain ⟨j, rfl⟩ := Int.eq_ofNat_of_zero_le j0
      have g13 := g2.trans g3
      have hb3 := hb.tups (g13.tups pu)
      have hj : j < ps.length := by omega
      have r1 := hb3.rows _ (List.getElem_mem hj)
      obtain ⟨rl, hrl⟩ : ∃ r, ps.getLast? = some r := ⟨_, List.getLast?_eq_getLast hp⟩
      have r2 := hb3.rows rl (List.mem_of_getLast? hrl)
      have r3 := hb3.rows _ (List.getElem_mem lp)
      have m1 : ps[j].2 ∈ ps.map (·.2) := List.mem_map.mpr ⟨_, List.getElem_mem hj, rfl⟩
      have m3 : ps[0].2 ∈ ps.map (·.2) := List.mem_map.mpr ⟨_, List.getElem_mem lp, rfl⟩
      have le : ps[0].2.t ≤ rl.2.t := last_most gd.ord.2 (by rw [List.getLast?_map, hrl]; rfl) m3
      have t6 := m6 _ m1
      have t61 := m6 _ m3
      have t62 := m6 rl.2 (List.mem_map.mpr ⟨rl, List.mem_of_getLast? hrl, rfl⟩)
      have t1 := (gd.each _ m1).2.2.2.1
      have t2 := (gd.each _ m3).2.2.2.1
      refine (ixt hb3.meets (atI_nat (v := V.ref ps[j].1) (by simp [hj])) (ixt r1 rfl (zr2 rfl rfl ?_)))
      refine (zr rfl (ixt hb3.book rfl (zr rfl (ixt hb3.meets (atI_last (v := V.ref rl.1) (by rw [List.getLast?_map, hrl]; rfl)) (ixt r2 rfl ?_)))))
      refine (zr rfl (ixt hb3.book rfl (ixt hb3.meets (show atI (ps.map fun a => V.ref a.1) ((0 : Nat) : Int) = some (V.ref ps[0].1) from atI_nat (by simp [lp])) (ixt r3 rfl (zr2 rfl rfl ?_)))))
      refine (zr rfl ⟨rfl, .inr (zr rfl (zr2 rfl rfl ⟨.inr ⟨?_, ?_⟩, zr2 rfl rfl ?_⟩))⟩)
      · split <;> omega
      · split <;> omega
      show Q (V.int (ps[j].2.t - 1 - (rl.2.t - ps[0].2.t) * (if decide (V.int d = V.int 11) = true then 1 else 0))) H3
      have key : ps[j].2.t - 1 - (rl.2.t - ps[0].2.t) * (if decide (V.int d = V.int 11) = true then 1 else 0) ≤ ps[j].2.t - 1 := by
        split <;> omega
      generalize ps[j].2.t - 1 - (rl.2.t - ps[0].2.t) * (if decide (V.int d = V.int 11) = true then 1 else 0) = y at key ⊢
      refine q _ H3 g13 ⟨hb3, gd, ⟨_, rfl⟩, trivial, ?_⟩
      by_cases y1 : 1 ≤ y
      · exact .inr ⟨y, zr rfl ⟨y1, by omega, m1, by omega⟩⟩
      · exact .inl (by simp only [inB]; rw [decide_eq_false (show ¬ (1 : Int) ≤ y from y1)]; rfl)
theorem sc__law_asked : FnScope ["_law_book_here", "_law_day_here", "_law_way", "_law_since_here"] ["_law_book_here", "_law_day_here", "_law_way", "_law_since_here"] (defScope s__law_asked) := ⟨rfl, rfl, rfl, by decide +kernel, rfl, by decide +kernel, by decide +kernel⟩
theorem ok__law_asked (T : Tx K mg a t_LONGEST_DAY) : FnOk P w K mg base (CXE P w) 6 a.a__law_asked a.d__law_asked ["_law_book_here", "_law_day_here", "_law_way", "_law_since_here"] (spAsked65 K a.c_NoDay) := by
  have G_again_times := @ok_again_times P w _ _ base _ _ T
  have G_again_chain := @ok_again_chain P w _ _ base _ _ T
  have G_waits := @ok_waits P w _ _ base _ _ T
  refine T.F__law_asked.okE sc__law_asked (fun vs H Q E h => ?_) (fun cdv A outer s H vs Q E hr h => ?_)
  · rcases h with ⟨_, _, _, _, _, _, _, _, rfl, _⟩ | ⟨_, _, _, _, _, _, _, _, rfl, _⟩ <;> rfl
  · have nd := sc__law_asked.nd
    have hu := hr.units
    skip
    refine ⟨_, (@bl_out _ _ _ (@bl_c _ _ _ _ _ _ (@ps_if _ _ _ _ _ _ _ _ (@pt_cmpR _ _ _ _ _ _ _ _ op_eq (pv 2) pe_int (nomark _)) (@bl_out _ _ _ (@bl_1 _ _ _ (@ps_ret _ _ _ _ (pe_call (E := E) G_again_times (hr.mono (by decide)) rfl T.m_again_times T.k_again_times T.i_again_times .nil (pass_on rfl rfl rfl (fun _ _ z => z)) (@pa_out _ _ _ (@pa_c _ _ _ _ _ (pv 0) (@pa_c _ _ _ _ _ (pv 1) (@pa_c _ _ _ _ _ pe_int (@pa_c _ _ _ _ _ (pv 3) pa_n rfl) rfl) rfl) rfl)))))) pss_nil) (@bl_c _ _ _ _ _ _ (@ps_if _ _ _ _ _ _ _ _ (@pt_cmpR _ _ _ _ _ _ _ _ op_eq (pv 2) pe_int (nomark _)) (@bl_out _ _ _ (@bl_1 _ _ _ (@ps_ret _ _ _ _ (pe_call (E := E) G_again_chain (hr.mono (by decide)) rfl T.m_again_chain T.k_again_chain T.i_again_chain .nil (pass_on rfl rfl rfl (fun _ _ z => z)) (@pa_out _ _ _ (@pa_c _ _ _ _ _ (pv 0) (@pa_c _ _ _ _ _ (pv 1) (@pa_c _ _ _ _ _ pe_int (@pa_c _ _ _ _ _ (pv 3) (@pa_c _ _ _ _ _ (@pe_op _ _ _ _ _ _ _ _ op_sub (pe_callB (call_len_seq' rfl) (by rfl) T.b_len PySem.boot_len (@pa_out _ _ _ (@pa_c _ _ _ _ _ (@pe_ix _ _ _ _ _ _ _ (ix_tup' rfl) (pv 0) pe_int (fun _ _ => rfl)) pa_n rfl))) pe_int) pa_n rfl) rfl) rfl) rfl) rfl)))))) pss_nil) (@bl_1 _ _ _ (@ps_ret _ _ _ _ (pe_call (E := E) G_waits (hr.mono (by decide)) rfl T.m_waits T.k_waits T.i_waits .nil (pass_on rfl rfl rfl (fun _ _ z => z)) (@pa_out _ _ _ (@pa_c _ _ _ _ _ (pv 0) (@pa_c _ _ _ _ _ (pv 1) (@pa_c _ _ _ _ _ pe_int (@pa_c _ _ _ _ _ (@pe_op _ _ _ _ _ _ _ _ op_sub (pe_callB (call_len_seq' rfl) (by rfl) T.b_len PySem.boot_len (@pa_out _ _ _ (@pa_c _ _ _ _ _ (@pe_ix _ _ _ _ _ _ _ (ix_tup' rfl) (pv 0) pe_int (fun _ _ => rfl)) pa_n rfl))) pe_int) pa_n rfl) rfl) rfl) rfl)))))))), ?_⟩
    rcases h with ⟨b, day, way, x, rooms, tr, tm, ps, rfl, wy, hb, r1, r12, gd, d1, d6, hd, x0, x9, q⟩ | ⟨b, y, way, x, rooms, tr, tm, ps, rfl, wy, bad, r1, q⟩
    · have lr : ((rooms.map V.int).length : Int) - 1 = ((rooms.length - 1 : Nat) : Int) := by rw [List.length_map]; omega
      rcases wy with rfl | rfl | rfl
      · refine (zr rfl ⟨rfl, zr rfl (iteB1 rfl ?_)⟩)
        exact (zr rfl (zr rfl (zr rfl (.inl (ex8 b day 0 x rooms tr tm ps ⟨rfl, hb, by omega, gd, d1, d6, hd, x0, x9, fun l H' hl s' h' => q _ H' s' (.inl ⟨rfl, l, rfl, h'⟩)⟩)))))
      · refine (zr rfl ⟨rfl, zr rfl (iteB0 (by decide +kernel) (zr rfl ⟨rfl, zr rfl (iteB1 rfl ?_)⟩))⟩)
        refine (zr rfl (zr rfl (zr rfl (zr rfl (ixt hb.book rfl ⟨tr, zr rfl ⟨.inr (SqT.of hb.rooms), zr2 rfl rfl ?_⟩⟩)))))
        show spAgCX _ _ [.ref b, .int day, .int 0, .int x, .int (((rooms.map V.int).length : Int) - 1)] _ _ _
        rw [lr]
        refine .inl (ex9 b day 0 (rooms.length - 1) x rooms tr tm ps ⟨rfl, hb, by omega, gd, by omega, d1, d6, hd, x0, x9, fun no H' s' => q _ H' s' (.inr (.inl ⟨rfl, .inl ⟨no, rfl⟩⟩)), fun e l cs H' he hl s' h' hc bk => q _ H' s' (.inr (.inl ⟨rfl, .inr ⟨(by rw [he]; exact fun z => nomatch z), _, ⟨l, cs, rfl, h', hc, rfl⟩, bk⟩⟩))⟩)
      · refine (zr rfl ⟨rfl, zr rfl (iteB0 (by decide +kernel) (zr rfl ⟨rfl, zr rfl (iteB0 (by decide +kernel) ?_)⟩))⟩)
        refine (zr rfl (zr rfl (zr rfl (ixt hb.book rfl ⟨tr, zr rfl ⟨.inr (SqT.of hb.rooms), zr2 rfl rfl ?_⟩⟩))))
        show spWaitsX _ _ [.ref b, .int day, .int 0, .int (((rooms.map V.int).length : Int) - 1)] _ _ _
        rw [lr]
        refine .inl (ex8 b day 0 (rooms.length - 1) rooms tr tm ps ⟨rfl, hb, by omega, gd, by omega, by omega, d1, d6, hd, fun no H' s' => q _ H' s' (.inr (.inr ⟨rfl, .inl ⟨no, rfl⟩⟩)), fun l qs H' he hl s' h' hc eq => q _ H' s' (.inr (.inr ⟨rfl, .inr ⟨he, l, qs, rfl, h', hc, eq⟩⟩))⟩)
    · have hb := bad.1
      have lr : ((rooms.map V.int).length : Int) - 1 = ((rooms.length - 1 : Nat) : Int) := by rw [List.length_map]; omega
      rcases wy with rfl | rfl | rfl
      · refine (zr rfl ⟨rfl, zr rfl (iteB1 rfl ?_)⟩)
        exact (zr rfl (zr rfl (zr rfl (.inr (ex8 b y _ _ rooms tr tm ps ⟨rfl, bad, q⟩)))))
      · refine (zr rfl ⟨rfl, zr rfl (iteB0 (by decide +kernel) (zr rfl ⟨rfl, zr rfl (iteB1 rfl ?_)⟩))⟩)
        exact (zr rfl (zr rfl (zr rfl (zr rfl (ixt hb.book rfl ⟨tr, zr rfl ⟨.inr (SqT.of hb.rooms), zr2 rfl rfl (.inr (ex9 b y _ _ _ rooms tr tm ps ⟨rfl, bad, q⟩))⟩⟩)))))
      · refine (zr rfl ⟨rfl, zr rfl (iteB0 (by decide +kernel) (zr rfl ⟨rfl, zr rfl (iteB0 (by decide +kernel) ?_)⟩))⟩)
        refine (zr rfl (zr rfl (zr rfl (ixt hb.book rfl ⟨tr, zr rfl ⟨.inr (SqT.of hb.rooms), zr2 rfl rfl ?_⟩⟩))))
        show spWaitsX _ _ [.ref b, y, .int 0, .int (((rooms.map V.int).length : Int) - 1)] _ _ _
        rw [lr]
        exact .inr (ex8 b y 0 (rooms.length - 1) rooms tr tm ps ⟨rfl, bad, q⟩)
theorem sc__law_said : FnScope ["_law_book_here", "_law_day_here", "_law_way", "_law_since_here", "_law_kinds", "e"] ["_law_book_here", "_law_day_here", "_law_way", "_law_since_here"] (defScope s__law_said) := ⟨rfl, rfl, rfl, by decide +kernel, rfl, by decide +kernel, by decide +kernel⟩
theorem ok__law_said (T : Tx K mg a t_LONGEST_DAY) : FnOk P w K mg base CX0 7 a.a__law_said a.d__law_said ["_law_book_here", "_law_day_here", "_law_way", "_law_since_here"] (spSaid65 K) := by
  have G__law_asked := @ok__law_asked P w _ _ base _ _ T
  refine T.F__law_said.ok sc__law_said (fun vs H Q E h => ?_) (fun cdv A outer s H vs Q E hr h => ?_)
  · obtain ⟨_, _, _, _, _, _, _, _, rfl, _⟩ := h; rfl
  · have nd := sc__law_said.nd
    have hu := hr.units
    obtain ⟨b, y, way, x, rooms, tr, tm, ps, rfl, wy, bad, r1, q⟩ := h
    refine ⟨_, (@bl_out _ _ _ (@bl_c _ _ _ _ _ _ (ps_set (i := 4) nd rfl (by first | exact Or.inl rfl | exact Or.inr rfl) (@pe_lst _ _ _ _ pa_nil)) (@bl_c _ _ _ _ _ _ (ps_tryAs (i := 5) rfl (psx_call G__law_asked (hr.mono (by decide)) rfl T.m__law_asked T.k__law_asked T.i__law_asked .nil (@pa_out _ _ _ (@pa_c _ _ _ _ _ (pv 0) (@pa_c _ _ _ _ _ (pv 1) (@pa_c _ _ _ _ _ (pv 2) (@pa_c _ _ _ _ _ (pv 3) pa_n rfl) rfl) rfl) rfl))) rfl rfl rfl T.m_MeetError nd rfl rfl (fun _ => (@bl_out _ _ _ (@bl_c _ _ _ _ _ _ (ps_set (i := 4) nd rfl (by first | exact Or.inl rfl | exact Or.inr rfl) (@pe_lst _ _ _ _ (@pa_out _ _ _ (@pa_c _ _ _ _ _ (pe_callB (call_isX rfl) (by rfl) T.b_isinstance PyProof.Rows.boot_isinstance (@pa_out _ _ _ (@pa_c _ _ _ _ _ (pv 5) (@pa_c _ _ _ _ _ (pe_glob (v := V.ref a.c_NoDay) (by rfl) T.m_NoDay rfl) pa_n rfl) rfl))) (@pa_c _ _ _ _ _ (pe_callB (call_isX rfl) (by rfl) T.b_isinstance PyProof.Rows.boot_isinstance (@pa_out _ _ _ (@pa_c _ _ _ _ _ (pv 5) (@pa_c _ _ _ _ _ (pe_bltn (v := V.ty "ValueError") rfl T.b_ValueError PyProof.Rows.Boot.«ValueError» rfl) pa_n rfl) rfl))) pa_n rfl) rfl)))) (@bl_c _ _ _ _ _ _ (ps_expr (pe_bmK rfl PySem.F.plainAttrs_list PySem.F.slot_list_append PySem.F.type_list_append mt_append (pv 4) (@pa_out _ _ _ (@pa_c _ _ _ _ _ (pe_callB (call_isXT rfl) (by rfl) T.b_isinstance PyProof.Rows.boot_isinstance (@pa_out _ _ _ (@pa_c _ _ _ _ _ (pv 5) (@pa_c _ _ _ _ _ (@pe_tup _ _ _ _ _ (@pa_out _ _ _ (@pa_c _ _ _ _ _ (pe_glob (v := V.ref a.c_NoBook) (by rfl) T.m_NoBook rfl) (@pa_c _ _ _ _ _ (pe_glob (v := V.ref a.c_NoClaim) (by rfl) T.m_NoClaim rfl) (@pa_c _ _ _ _ _ (pe_glob (v := V.ref a.c_NoDeed) (by rfl) T.m_NoDeed rfl) (@pa_c _ _ _ _ _ (pe_glob (v := V.ref a.c_NoLetter) (by rfl) T.m_NoLetter rfl) (@pa_c _ _ _ _ _ (pe_glob (v := V.ref a.c_NoMeeting) (by rfl) T.m_NoMeeting rfl) (@pa_c _ _ _ _ _ (pe_glob (v := V.ref a.c_NoName) (by rfl) T.m_NoName rfl) (@pa_c _ _ _ _ _ (pe_glob (v := V.ref a.c_NoPass) (by rfl) T.m_NoPass rfl) (@pa_c _ _ _ _ _ (pe_glob (v := V.ref a.c_NoRoom) (by rfl) T.m_NoRoom rfl) pa_n rfl) rfl) rfl) rfl) rfl) rfl) rfl) rfl))) pa_n rfl) rfl))) pa_n rfl)))) (@bl_1 _ _ _ (ps_expr (pe_bmK rfl PySem.F.plainAttrs_list PySem.F.slot_list_append PySem.F.type_list_append mt_append (pv 4) (@pa_out _ _ _ (@pa_c _ _ _ _ _ (pe_callB (call_isXT rfl) (by rfl) T.b_isinstance PyProof.Rows.boot_isinstance (@pa_out _ _ _ (@pa_c _ _ _ _ _ (pv 5) (@pa_c _ _ _ _ _ (@pe_tup _ _ _ _ _ (@pa_out _ _ _ (@pa_c _ _ _ _ _ (pe_glob (v := V.ref a.c_NoRow) (by rfl) T.m_NoRow rfl) (@pa_c _ _ _ _ _ (pe_glob (v := V.ref a.c_NoRule) (by rfl) T.m_NoRule rfl) (@pa_c _ _ _ _ _ (pe_glob (v := V.ref a.c_NoText) (by rfl) T.m_NoText rfl) (@pa_c _ _ _ _ _ (pe_glob (v := V.ref a.c_NotThere) (by rfl) T.m_NotThere rfl) (@pa_c _ _ _ _ _ (pe_glob (v := V.ref a.c_NoWalker) (by rfl) T.m_NoWalker rfl) (@pa_c _ _ _ _ _ (pe_glob (v := V.ref a.c_TooMany) (by rfl) T.m_TooMany rfl) (@pa_c _ _ _ _ _ (pe_glob (v := V.ref a.c_Twice) (by rfl) T.m_Twice rfl) (@pa_c _ _ _ _ _ (pe_glob (v := V.ref a.c_HasIt) (by rfl) T.m_HasIt rfl) pa_n rfl) rfl) rfl) rfl) rfl) rfl) rfl) rfl))) pa_n rfl) rfl))) pa_n rfl)))))))))) (@bl_1 _ _ _ (@ps_ret _ _ _ _ (pv 4)))))), ?_⟩
    have line := line9
    refine ⟨by show 0 ≤ _; omega, fun l0 hl0 => ?_⟩
    have s1 := same_new (o := HO.lst []) hl0
    refine (zr rfl (zr rfl (zr rfl (zr rfl (.inr (ex8 b y way x rooms tr tm ps ⟨rfl, wy, bad.same s1, r1, fun H1 s1' => ⟨T.f_em, zr rfl (fun x hx => ?_)⟩⟩))))))
    have s2 := (s1.trans s1').trans (same_new (o := excO x a.c_NoDay) hx)
    have hx2 : upd H1 x (excO x a.c_NoDay) x = some (excO x a.c_NoDay) := upd_same
    generalize upd H1 x (excO x a.c_NoDay) = H2 at s2 hx2 ⊢
    refine (zr rfl ⟨x, _, _, true, rfl, hx2, T.x_NoDay, rfl, inv_self, ?_⟩)
    refine (zr rfl ⟨x, _, _, true, rfl, hx2, T.x_NoDay, rfl, T.f_ve, ?_⟩)
    refine ⟨by show 2 ≤ _; omega, fun l1 hl1 => ?_⟩
    have s3 := s2.trans (same_new (o := HO.lst [V.bl true, V.bl true]) hl1)
    have h3 : upd H2 l1 (HO.lst [V.bl true, V.bl true]) l1 = some (.lst [V.bl true, V.bl true]) := upd_same
    have hx3 := same_new (o := HO.lst [V.bl true, V.bl true]) hl1 _ _ hx2
    have fr3 : H l1 = none := s2.free hl1
    generalize upd H2 l1 (HO.lst [V.bl true, V.bl true]) = H3 at s3 h3 hx3 ⊢
    refine app_kit (cs := [V.ref a.c_NoBook, V.ref a.c_NoClaim, V.ref a.c_NoDeed, V.ref a.c_NoLetter, V.ref a.c_NoMeeting, V.ref a.c_NoName, V.ref a.c_NoPass, V.ref a.c_NoRoom]) rfl rfl h3 hx3 T.x_NoDay rfl T.f_ka (by decide) (by show 8 ≤ 50; decide) (fun _ _ q => q) fun H4 b4 h4 hx4 => ?_
    refine app_kit (cs := [V.ref a.c_NoRow, V.ref a.c_NoRule, V.ref a.c_NoText, V.ref a.c_NotThere, V.ref a.c_NoWalker, V.ref a.c_TooMany, V.ref a.c_Twice, V.ref a.c_HasIt]) rfl rfl h4 hx4 T.x_NoDay rfl T.f_kb (by decide) (by show 8 ≤ 50; decide) (fun _ _ q => q) fun H5 b5 h5 hx5 => ?_
    exact (zr rfl (q l1 H5 (But.same fr3 s3 (b4.trans b5)) h5))
theorem sc_law : FnScope ["_law_script", "_law_purse_here", "_law_book_here", "_law_day_here", "_law_ways", "_law_ahead", "_law_k", "_law_bad", "_law_way", "_law_since_here"] ["_law_script"] (defScope s_law) := ⟨rfl, rfl, rfl, by decide +kernel, rfl, by decide +kernel, by decide +kernel⟩
theorem ok_law (T : Tx K mg a t_LONGEST_DAY) : FnOk P w K mg base CX0 8 a.a_law a.d_law ["_law_script"] (spLaw K) := by
  have G__law_purse := @ok__law_purse P w _ _ base _ _ T
  have G__law_book := @ok__law_book P w _ _ base _ _ T
  have G__law_squeezed := @ok__law_squeezed P w _ _ base _ _ T
  have G__law_day := @ok__law_day P w _ _ base _ _ T
  have G__law_since := @ok__law_since P w _ _ base _ _ T
  have G__law_none := @ok__law_none P w _ _ base _ _ T
  have G__law_asked := @ok__law_asked P w _ _ base _ _ T
  have G__law_said := @ok__law_said P w _ _ base _ _ T
  refine T.F_law.ok sc_law (fun vs H Q E h => ?_) (fun cdv A outer s H vs Q E hr h => ?_)
  · obtain ⟨_, _, rfl, _⟩ := h; rfl
  · have nd := sc_law.nd
    have hu := hr.units
    obtain ⟨sa, ns, rfl, hS, hlen, q⟩ := h
    refine ⟨_, (@bl_out _ _ _ (@bl_c _ _ _ _ _ _ (ps_set (i := 1) nd rfl (by first | exact Or.inl rfl | exact Or.inr rfl) (pe_call G__law_purse (hr.mono (by decide)) rfl T.m__law_purse T.k__law_purse T.i__law_purse .nil pass0 (@pa_out _ _ _ (@pa_c _ _ _ _ _ (pv 0) (@pa_c _ _ _ _ _ pe_int pa_n rfl) rfl)))) (@bl_c _ _ _ _ _ _ (ps_set (i := 2) nd rfl (by first | exact Or.inl rfl | exact Or.inr rfl) (pe_call G__law_squeezed (hr.mono (by decide)) rfl T.m__law_squeezed T.k__law_squeezed T.i__law_squeezed .nil pass0 (@pa_out _ _ _ (@pa_c _ _ _ _ _ (pv 1) (@pa_c _ _ _ _ _ (pe_call G__law_book (hr.mono (by decide)) rfl T.m__law_book T.k__law_book T.i__law_book .nil pass0 (@pa_out _ _ _ (@pa_c _ _ _ _ _ (pv 1) (@pa_c _ _ _ _ _ pe_int (@pa_c _ _ _ _ _ pe_int pa_n rfl) rfl) rfl))) pa_n rfl) rfl)))) (@bl_c _ _ _ _ _ _ (ps_set (i := 3) nd rfl (by first | exact Or.inl rfl | exact Or.inr rfl) (pe_call G__law_day (hr.mono (by decide)) rfl T.m__law_day T.k__law_day T.i__law_day .nil pass0 (@pa_out _ _ _ (@pa_c _ _ _ _ _ (pv 1) (@pa_c _ _ _ _ _ (pv 2) pa_n rfl) rfl)))) (@bl_c _ _ _ _ _ _ (ps_set (i := 4) nd rfl (by first | exact Or.inl rfl | exact Or.inr rfl) (@pe_slice _ _ _ _ _ _ _ _ _ _ (sl_list' rfl) (@pe_lst _ _ _ _ (@pa_out _ _ _ (@pa_c _ _ _ _ _ pe_int (@pa_c _ _ _ _ _ pe_int (@pa_c _ _ _ _ _ pe_int pa_n rfl) rfl) rfl))) po_none (@po_some _ _ _ (@pe_op _ _ _ _ _ _ _ _ op_add pe_int (pe_callTy (call_int1) (by rfl) T.b_int PyProof.Rows.boot_int (@pa_out _ _ _ (@pa_c _ _ _ _ _ (@pe_cmpR _ _ _ _ _ _ _ _ op_gt (pe_callB (call_len_seq' rfl) (by rfl) T.b_len PySem.boot_len (@pa_out _ _ _ (@pa_c _ _ _ _ _ (@pe_ix _ _ _ _ _ _ _ (ix_tup' rfl) (pv 2) pe_int (fun _ _ => rfl)) pa_n rfl))) pe_int (nomark _)) pa_n rfl))))))) (@bl_c _ _ _ _ _ _ (ps_setComp (ix := 5) nd rfl (by first | exact Or.inl rfl | exact Or.inr rfl) (own := ["_law_way"]) (caps := [2, 3]) rfl (show CompScope ["_law_way"] [2, 3] ["_law_script", "_law_purse_here", "_law_book_here", "_law_day_here", "_law_ways", "_law_ahead", "_law_k", "_law_bad", "_law_way", "_law_since_here"] (defScope s_law) _ from ⟨rfl, by decide +kernel, by decide +kernel, by decide +kernel, by decide +kernel⟩) (@pi_list' _ _ _ _ _ rfl (pv 4)) (fun _ _ _ _ => (pg_name (i := 0) (show List.Nodup (["_law_way", "_law_book_here", "_law_day_here"] : List Str) from by decide +kernel) rfl (by first | exact Or.inl rfl | exact Or.inr rfl))) (fun _ _ _ _ => pts_nil) (fun _ _ _ _ => (pe_call (E := E0) G__law_asked (hr.mono (by decide)) rfl T.m__law_asked T.k__law_asked T.i__law_asked .nil passN (@pa_out _ _ _ (@pa_c _ _ _ _ _ (pv 1) (@pa_c _ _ _ _ _ (pv 2) (@pa_c _ _ _ _ _ (pv 0) (@pa_c _ _ _ _ _ pe_int pa_n rfl) rfl) rfl) rfl))))) (@bl_c _ _ _ _ _ _ (ps_for PassesOwn.never rfl (pi_range2 rfl T.b_range (@pa_out _ _ _ (@pa_c _ _ _ _ _ pe_int (@pa_c _ _ _ _ _ (pe_callB (call_max2 rfl) (by rfl) T.b_max PyProof.Rows.boot_max (@pa_out _ _ _ (@pa_c _ _ _ _ _ pe_int (@pa_c _ _ _ _ _ (pe_callB (call_min2 rfl) (by rfl) T.b_min PyProof.Rows.boot_min (@pa_out _ _ _ (@pa_c _ _ _ _ _ (pe_callB (call_len_seq' rfl) (by rfl) T.b_len PySem.boot_len (@pa_out _ _ _ (@pa_c _ _ _ _ _ (pv 0) pa_n rfl))) (@pa_c _ _ _ _ _ pe_int pa_n rfl) rfl))) pa_n rfl) rfl))) pa_n rfl) rfl))) (pg_name (i := 6) nd rfl (by first | exact Or.inl rfl | exact Or.inr rfl)) (@bl_out _ _ _ (@bl_c _ _ _ _ _ _ (ps_set (i := 7) nd rfl (by first | exact Or.inl rfl | exact Or.inr rfl) (pe_call G__law_none (hr.mono (by decide)) rfl T.m__law_none T.k__law_none T.i__law_none .nil pass0 (@pa_out _ _ _ (@pa_c _ _ _ _ _ (pe_call G__law_purse (hr.mono (by decide)) rfl T.m__law_purse T.k__law_purse T.i__law_purse .nil pass0 (@pa_out _ _ _ (@pa_c _ _ _ _ _ (pv 0) (@pa_c _ _ _ _ _ (pv 6) pa_n rfl) rfl))) (@pa_c _ _ _ _ _ (pv 2) pa_n rfl) rfl)))) (@bl_1 _ _ _ (ps_for PassesOwn.never rfl (@pi_list' _ _ _ _ _ rfl (pv 4)) (pg_name (i := 8) nd rfl (by first | exact Or.inl rfl | exact Or.inr rfl)) (@bl_out _ _ _ (@bl_c _ _ _ _ _ _ (ps_set (i := 9) nd rfl (by first | exact Or.inl rfl | exact Or.inr rfl) (pe_call G__law_since (hr.mono (by decide)) rfl T.m__law_since T.k__law_since T.i__law_since .nil pass0 (@pa_out _ _ _ (@pa_c _ _ _ _ _ (pe_call G__law_purse (hr.mono (by decide)) rfl T.m__law_purse T.k__law_purse T.i__law_purse .nil pass0 (@pa_out _ _ _ (@pa_c _ _ _ _ _ (pv 0) (@pa_c _ _ _ _ _ (pv 6) pa_n rfl) rfl))) (@pa_c _ _ _ _ _ (pv 2) (@pa_c _ _ _ _ _ (pv 3) pa_n rfl) rfl) rfl)))) (@bl_1 _ _ _ (@ps_if _ _ _ _ _ _ _ _ (@pt_cmpR _ _ _ _ _ _ _ _ (op_neE hu) (pe_call G__law_said (hr.mono (by decide)) rfl T.m__law_said T.k__law_said T.i__law_said .nil pass0 (@pa_out _ _ _ (@pa_c _ _ _ _ _ (pv 2) (@pa_c _ _ _ _ _ (pv 7) (@pa_c _ _ _ _ _ (pv 8) (@pa_c _ _ _ _ _ (pv 9) pa_n rfl) rfl) rfl) rfl))) (@pe_lst _ _ _ _ (@pa_out _ _ _ (@pa_c _ _ _ _ _ pe_bl (@pa_c _ _ _ _ _ pe_bl (@pa_c _ _ _ _ _ pe_bl (@pa_c _ _ _ _ _ pe_bl pa_n rfl) rfl) rfl) rfl))) (nomark _)) (@bl_out _ _ _ (@bl_1 _ _ _ (@ps_ret _ _ _ _ pe_bl))) pss_nil))))))))) (@bl_1 _ _ _ (@ps_ret _ _ _ _ (@pe_cmpR _ _ _ _ _ _ _ _ (op_eqE hu) (pe_comp (own := ["_law_way"]) (caps := [2, 3]) rfl (show CompScope ["_law_way"] [2, 3] ["_law_script", "_law_purse_here", "_law_book_here", "_law_day_here", "_law_ways", "_law_ahead", "_law_k", "_law_bad", "_law_way", "_law_since_here"] (defScope s_law) _ from ⟨rfl, by decide +kernel, by decide +kernel, by decide +kernel, by decide +kernel⟩) (@pi_list' _ _ _ _ _ rfl (pv 4)) (fun _ _ _ _ => (pg_name (i := 0) (show List.Nodup (["_law_way", "_law_book_here", "_law_day_here"] : List Str) from by decide +kernel) rfl (by first | exact Or.inl rfl | exact Or.inr rfl))) (fun _ _ _ _ => pts_nil) (fun _ _ _ _ => (pe_call (E := E0) G__law_asked (hr.mono (by decide)) rfl T.m__law_asked T.k__law_asked T.i__law_asked .nil passN (@pa_out _ _ _ (@pa_c _ _ _ _ _ (pv 1) (@pa_c _ _ _ _ _ (pv 2) (@pa_c _ _ _ _ _ (pv 0) (@pa_c _ _ _ _ _ pe_int pa_n rfl) rfl) rfl) rfl))))) (pv 5) (nomark _))))))))))), ?_⟩
    have line := line9
    refine ⟨_, rfl, sa, ns, 0, rfl, hS, by omega, fun p H1 hp pu1 s1 => ?_⟩
    refine ⟨_, rfl, _, rfl, p, 12, 60, rfl, by decide, by decide, by decide, pu1, fun b0 rooms tr tm0 ps0 H2 g2 hb0 rm1 rm2 rm9 gd0 _ => ?_⟩
    have r12 : rooms.length ≤ 12 := by omega
    refine ⟨p, b0, rooms, tr, tm0, ps0, rfl, hb0, by omega, gd0, g2.2, fun b tm ps H3 g3 hb gd m6 => ?_⟩
    refine ⟨_, rfl, _, rfl, p, b, rooms, tr, tm, ps, rfl, hb, gd, m6, g3.2, fun day H4 g4 d1 d6 hd => ?_⟩
    have hb4 := hb.tups (g4.tups g3.2)
    have sm4 : Same H H4 := But.same hp s1 (g2.trans (g3.trans g4)).1
    have hS4 := sm4.seq hS
    clear sm4 g4 g3 g2 hb0 gd0 s1 pu1 hp hS hb
    refine ⟨by show 3 ≤ sizeLine; omega, fun l0 hl0 => ?_⟩
    have k5 := same_new (o := HO.lst [V.int 0, V.int 1, V.int 2]) hl0
    have e5 : upd H4 l0 (HO.lst [V.int 0, V.int 1, V.int 2]) l0 = some (.lst [V.int 0, V.int 1, V.int 2]) := upd_same
    generalize upd H4 l0 (HO.lst [V.int 0, V.int 1, V.int 2]) = H5 at k5 e5 ⊢
    have hb5 := hb4.same k5
    refine ⟨_, rfl, b, _, _, _, rfl, rfl, SqT.of hb5.book, rfl, tr, _, rfl, .inr (SqT.of hb5.rooms), _, _, rfl, rfl, .inr ⟨_, rfl, _, _, rfl, rfl, _, rfl, l0, _, rfl, SqL.of e5, fun lw hlw => ?_⟩⟩
    obtain ⟨ws, ews, wall⟩ : ∃ ws : List Int, cutV [V.int 0, V.int 1, V.int 2] none (some (2 + (if decide (1 < ((rooms.map V.int).length : Int)) = true then 1 else 0))) = ws.map V.int ∧ ws.length ≤ 3 ∧ ∀ w ∈ ws, w = 0 ∨ w = 1 ∨ w = 2 := by
      split
      · exact ⟨[0, 1, 2], rfl, by decide, fun w hw => by simpa using hw⟩
      · exact ⟨[0, 1], rfl, by decide, fun w hw => by
          rcases List.mem_cons.mp hw with rfl | hw
          · exact .inl rfl
          · rw [List.mem_singleton.mp hw]; exact .inr (.inl rfl)⟩
    obtain ⟨wl, wall⟩ := wall
    have k6 := same_new (o := HO.lst (ws.map V.int)) hlw
    have e6 : upd H5 lw (HO.lst (ws.map V.int)) lw = some (.lst (ws.map V.int)) := upd_same
    show gName 4 (V.ref lw) _ (upd H5 lw (HO.lst (cutV [V.int 0, V.int 1, V.int 2] none (some (2 + (if decide (1 < ((rooms.map V.int).length : Int)) = true then 1 else 0)))))) _
    rw [ews]
    generalize upd H5 lw (HO.lst (ws.map V.int)) = H6 at k6 e6 ⊢
    have k46 := k5.trans k6
    have hb6 := hb4.same k46
    have hS6 := k46.seq hS4
    have lws : (ws.map V.int).length = ws.length := List.length_map ..
    clear k46 k5 k6 e5 hb5 hl0 hlw hS4 hb4
    refine ⟨_, rfl, lw, rfl, ⟨_, SqL.of e6⟩, ?_⟩
    refine comp_list (K := K) (a := lw) (xs := ws.map V.int) (fun i τ acc H7 => (∃ t0, τ = [t0, some (.ref b), some (.int day)]) ∧ acc.length = i ∧ Same H6 H7 ∧ ∀ (j : Nat) v, acc[j]? = some v → ∃ w, ws[j]? = some w ∧ Res65 H7 (ps.map (·.2)) day rooms.length 0 w v) ?_ (by rw [lws]; omega) ?_ ?_ ?_
    · exact ⟨⟨_, rfl⟩, rfl, Same.refl _, fun j v h => by simp at h⟩
    · rintro i τ acc H7 ⟨_, la, s7, _⟩
      exact ⟨by omega, SqL.of (s7 _ _ e6)⟩
    · rintro i x τ acc H7 C hx ⟨⟨t0, rfl⟩, la, s7, al⟩ hC
      obtain ⟨w, hw, rfl⟩ := map_get hx
      refine ⟨_, rfl, _, rfl, _, rfl, .inl ⟨b, day, w, 0, rooms, tr, tm, ps, rfl, wall w (List.mem_of_getElem? hw), hb6.same s7, by omega, r12, gd, d1, d6, hd, by decide, by decide, fun v H8 s8 res => hC _ _ _ ⟨⟨_, rfl⟩, by rw [List.length_append, la]; rfl, s7.trans s8, fun j v' hv => ?_⟩⟩⟩
      by_cases c : j < acc.length
      · rw [List.getElem?_append_left c] at hv
        obtain ⟨w', h1, h2⟩ := al j v' hv
        exact ⟨w', h1, h2.same s8⟩
      · rw [List.getElem?_append_right (by omega)] at hv
        have : j = acc.length := by
          have := (List.getElem?_eq_some_iff.mp hv).1
          simp at this; omega
        subst this
        rw [Nat.sub_self] at hv
        cases hv
        exact ⟨w, by rw [la]; exact hw, res⟩
    rintro τ acc H7 ⟨_, la, s7, al⟩ lA hlA
    rw [lws] at la
    have k8 := same_new (o := HO.lst acc) hlA
    have e8 : upd H7 lA (HO.lst acc) lA = some (.lst acc) := upd_same
    have al8 : ∀ (j : Nat) v, acc[j]? = some v → ∃ w, ws[j]? = some w ∧ Res65 (upd H7 lA (HO.lst acc)) (ps.map (·.2)) day rooms.length 0 w v := fun j v h => by
      obtain ⟨w, h1, h2⟩ := al j v h
      exact ⟨w, h1, h2.same k8⟩
    generalize upd H7 lA (HO.lst acc) = H8 at k8 e8 al8 ⊢
    have s68 := s7.trans k8
    have hb8 := hb6.same s68
    have hS8 := s68.seq hS6
    have e68 := s68 _ _ e6
    clear k8 al s7 hlA hS6 hb6 e6 s68
    refine ⟨_, rfl, sa, _, rfl, .inl hS8, _, _, rfl, _, _, rfl, _, _, rfl, ?_, ?_⟩
    · refine ⟨by decide, by decide, ?_, ?_⟩
      · split <;> (try split) <;> omega
      · rw [List.length_map]; split <;> (try split) <;> omega
    refine for_range (lo := 3) (fun i σ H9 => (∃ v6 v7 v8 v9, σ = [some (.ref sa), some (.ref p), some (.ref b), some (.int day), some (.ref lw), some (.ref lA), v6, v7, v8, v9]) ∧ Same H8 H9) ⟨⟨_, _, _, _, rfl⟩, Same.refl _⟩ ?_ ?_
    · rintro i σ H9 hi ⟨⟨v6, v7, v8, v9, rfl⟩, s9⟩
      have i60 : i < 90 := by
        rw [List.length_map] at hi
        revert hi
        split <;> (try split) <;> intro h <;> omega
      refine ⟨_, rfl, _, rfl, sa, ns, 3 + i, by simp, s9.seq hS8, by omega, fun p2 HA hp2 pu2 sA => ?_⟩
      refine ⟨_, rfl, p2, b, rooms, tr, tm, ps, rfl, (hb8.same s9).same sA, gd, m6, pu2, fun y HB gB bad => ?_⟩
      have s9B : Same H9 HB := But.same hp2 sA gB.1
      have s8B := s9.trans s9B
      refine ⟨_, rfl, lw, rfl, ⟨_, SqL.of (s8B _ _ e68)⟩, ?_⟩
      refine for_list (K := K) (a := lw) (xs := ws.map V.int) (fun j σ HC => (∃ v8 v9, σ = [some (.ref sa), some (.ref p), some (.ref b), some (.int day), some (.ref lw), some (.ref lA), some (.int (3 + (i : Int))), some y, v8, v9]) ∧ Same HB HC) ⟨⟨_, _, rfl⟩, Same.refl _⟩ (fun j σ HC _ h => SqL.of (h.2 _ _ (s8B _ _ e68))) ?_ (fun σ HC h => ⟨⟨_, _, _, _, h.1.choose_spec.choose_spec⟩, s8B.trans h.2⟩)
      rintro j x σ HC hx ⟨⟨w8, w9, rfl⟩, sC⟩
      obtain ⟨w, hw, rfl⟩ := map_get hx
      have s8C := s8B.trans sC
      refine ⟨_, rfl, _, rfl, sa, ns, 3 + i, by simp, s8C.seq hS8, by omega, fun p3 HD hp3 pu3 sD => ?_⟩
      refine ⟨_, rfl, _, rfl, p3, b, day, rooms, tr, tm, ps, rfl, (hb8.same s8C).same sD, gd, m6, d1, d6, pu3, fun x0 HE gE x00 x01 => ?_⟩
      have sCE : Same HC HE := But.same hp3 sD gE.1
      refine ⟨_, rfl, _, rfl, _, rfl, _, rfl, b, y, w, x0, rooms, tr, tm, ps, rfl, wall w (List.mem_of_getElem? hw), (bad.same sC).same sCE, by omega, fun l1 HF sF h1 => ?_⟩
      refine ⟨by show 4 ≤ sizeLine; omega, fun l2 hl2 => ?_⟩
      have kG := same_new (o := HO.lst [V.bl true, V.bl true, V.bl false, V.bl false]) hl2
      refine ⟨0, l1, l2, _, _, fun _ => true, true, by decide, rfl, rfl, .inl ⟨SqL.of (kG _ _ h1), SqL.of upd_same⟩, rfl, (fun i x y hx hy => ?_), ?_⟩
      · match i, hx, hy with
        | 0, hx, hy => cases hx; cases hy; exact .inr ⟨rfl, rfl, rfl⟩
        | 1, hx, hy => cases hx; cases hy; exact .inr ⟨rfl, rfl, rfl⟩
        | 2, hx, hy => cases hx; cases hy; exact .inr ⟨rfl, rfl, rfl⟩
        | 3, hx, hy => cases hx; cases hy; exact .inr ⟨rfl, rfl, rfl⟩
        | i + 4, hx, hy => cases hx
      exact ⟨_, rfl, iteB0 rfl ⟨⟨_, _, rfl⟩, sC.trans (sCE.trans (sF.trans kG))⟩⟩
    · rintro σ H9 ⟨⟨v6, v7, v8, v9, rfl⟩, s9⟩
      refine ⟨_, rfl, lw, rfl, ⟨_, SqL.of (s9 _ _ e68)⟩, ?_⟩
      refine comp_list (K := K) (a := lw) (xs := ws.map V.int) (fun i τ acc H7 => (∃ t0, τ = [t0, some (.ref b), some (.int day)]) ∧ acc.length = i ∧ Same H9 H7 ∧ ∀ (j : Nat) v, acc[j]? = some v → ∃ w, ws[j]? = some w ∧ Res65 H7 (ps.map (·.2)) day rooms.length 0 w v) ?_ (by rw [lws]; omega) ?_ ?_ ?_
      · exact ⟨⟨_, rfl⟩, rfl, Same.refl _, fun j v h => by simp at h⟩
      · rintro i τ acc2 H7 ⟨_, la2, s7, _⟩
        exact ⟨by omega, SqL.of (s7 _ _ (s9 _ _ e68))⟩
      · rintro i x τ acc2 H7 C hx ⟨⟨t0, rfl⟩, la2, s7, al2⟩ hC
        obtain ⟨w, hw, rfl⟩ := map_get hx
        refine ⟨_, rfl, _, rfl, _, rfl, .inl ⟨b, day, w, 0, rooms, tr, tm, ps, rfl, wall w (List.mem_of_getElem? hw), (hb8.same s9).same s7, by omega, r12, gd, d1, d6, hd, by decide, by decide, fun v HX sX res => hC _ _ _ ⟨⟨_, rfl⟩, by rw [List.length_append, la2]; rfl, s7.trans sX, fun j v' hv => ?_⟩⟩⟩
        by_cases c : j < acc2.length
        · rw [List.getElem?_append_left c] at hv
          obtain ⟨w', h1, h2⟩ := al2 j v' hv
          exact ⟨w', h1, h2.same sX⟩
        · rw [List.getElem?_append_right (by omega)] at hv
          have : j = acc2.length := by
            have := (List.getElem?_eq_some_iff.mp hv).1
            simp at this; omega
          subst this
          rw [Nat.sub_self] at hv
          cases hv
          exact ⟨w, by rw [la2]; exact hw, res⟩
      rintro τ acc2 H7 ⟨_, la2, s7, al2⟩ lB hlB
      rw [lws] at la2
      have kY := same_new (o := HO.lst acc2) hlB
      have s8Y := s9.trans (s7.trans kY)
      refine ⟨_, rfl, 2, lB, lA, acc2, acc, fun _ => true, true, by decide, rfl, rfl, .inl ⟨SqL.of upd_same, SqL.of (s8Y _ _ e8)⟩, ?_, (fun i x y hx hy => ?_), q _⟩
      · rw [la2, la, decide_eq_true rfl]; simp
      · obtain ⟨w, h1, h2⟩ := al2 i x hx
        obtain ⟨w', h1', h2'⟩ := al8 i y hy
        rw [h1] at h1'; cases h1'
        exact eqv_res gd d1 hd (h2.same kY) (h2'.same s8Y)
end
theorem all_mk {l : PySem.W.OpenLaw} {w : World} {K : PySem.W.Frag} {h : Heap} {mg : Str → Option Value} {fa f__law_purse f__law_take f__law_far f__law_rooms f__law_step f__law_meetings f__law_book f_is_whole f_is_within f_is_below f_meetings_of f_ways f_lone_row f_need_day f_first_givings_again f_again_times f_again_chain f_waits f__law_squeezed f__law_day f__law_since f__law_none f__law_asked f__law_said f_law c_HasIt c_MeetError c_NoBook c_NoClaim c_NoDay c_NoDeed c_NoLetter c_NoMeeting c_NoName c_NoPass c_NoRoom c_NoRow c_NoRule c_NoText c_NoWalker c_NotThere c_TooMany c_Twice : Addr} (X : K.In h) (G : h.Ns mainGlobals mg) (hfa : mg "law" = some (.ref fa))
    {d__law_purse d__law_take d__law_far d__law_rooms d__law_step d__law_meetings d__law_book d_is_whole d_is_within d_is_below d_meetings_of d_ways d_lone_row d_need_day d_first_givings_again d_again_times d_again_chain d_waits d__law_squeezed d__law_day d__law_since d__law_none d__law_asked d__law_said d_law : FuncData} {t_LONGEST_DAY : Tok}
    (a__law_purse : PySem.W.nsIn K mainGlobals "_law_purse" = some (some (.ref f__law_purse))) (F__law_purse : Fun K "_law_purse" "_law_purse" s__law_purse f__law_purse d__law_purse)
    (a__law_take : PySem.W.nsIn K mainGlobals "_law_take" = some (some (.ref f__law_take))) (F__law_take : Fun K "_law_take" "_law_take" s__law_take f__law_take d__law_take)
    (a__law_far : PySem.W.nsIn K mainGlobals "_law_far" = some (some (.ref f__law_far))) (F__law_far : Fun K "_law_far" "_law_far" s__law_far f__law_far d__law_far)
    (a__law_rooms : PySem.W.nsIn K mainGlobals "_law_rooms" = some (some (.ref f__law_rooms))) (F__law_rooms : Fun K "_law_rooms" "_law_rooms" s__law_rooms f__law_rooms d__law_rooms)
    (a__law_step : PySem.W.nsIn K mainGlobals "_law_step" = some (some (.ref f__law_step))) (F__law_step : Fun K "_law_step" "_law_step" s__law_step f__law_step d__law_step)
    (a__law_meetings : PySem.W.nsIn K mainGlobals "_law_meetings" = some (some (.ref f__law_meetings))) (F__law_meetings : Fun K "_law_meetings" "_law_meetings" s__law_meetings f__law_meetings d__law_meetings)
    (a__law_book : PySem.W.nsIn K mainGlobals "_law_book" = some (some (.ref f__law_book))) (F__law_book : Fun K "_law_book" "_law_book" s__law_book f__law_book d__law_book)
    (a_is_whole : PySem.W.nsIn K mainGlobals "is_whole" = some (some (.ref f_is_whole))) (F_is_whole : Fun K "is_whole" "is_whole" s_is_whole f_is_whole d_is_whole)
    (a_is_within : PySem.W.nsIn K mainGlobals "is_within" = some (some (.ref f_is_within))) (F_is_within : Fun K "is_within" "is_within" s_is_within f_is_within d_is_within)
    (a_is_below : PySem.W.nsIn K mainGlobals "is_below" = some (some (.ref f_is_below))) (F_is_below : Fun K "is_below" "is_below" s_is_below f_is_below d_is_below)
    (a_meetings_of : PySem.W.nsIn K mainGlobals "meetings_of" = some (some (.ref f_meetings_of))) (F_meetings_of : Fun K "meetings_of" "meetings_of" s_meetings_of f_meetings_of d_meetings_of)
    (a_ways : PySem.W.nsIn K mainGlobals "ways" = some (some (.ref f_ways))) (F_ways : Fun K "ways" "ways" s_ways f_ways d_ways)
    (a_lone_row : PySem.W.nsIn K mainGlobals "lone_row" = some (some (.ref f_lone_row))) (F_lone_row : Fun K "lone_row" "lone_row" s_lone_row f_lone_row d_lone_row)
    (a_need_day : PySem.W.nsIn K mainGlobals "need_day" = some (some (.ref f_need_day))) (F_need_day : Fun K "need_day" "need_day" s_need_day f_need_day d_need_day)
    (a_first_givings_again : PySem.W.nsIn K mainGlobals "first_givings_again" = some (some (.ref f_first_givings_again))) (F_first_givings_again : Fun K "first_givings_again" "first_givings_again" s_first_givings_again f_first_givings_again d_first_givings_again)
    (a_again_times : PySem.W.nsIn K mainGlobals "again_times" = some (some (.ref f_again_times))) (F_again_times : Fun K "again_times" "again_times" s_again_times f_again_times d_again_times)
    (a_again_chain : PySem.W.nsIn K mainGlobals "again_chain" = some (some (.ref f_again_chain))) (F_again_chain : Fun K "again_chain" "again_chain" s_again_chain f_again_chain d_again_chain)
    (a_waits : PySem.W.nsIn K mainGlobals "waits" = some (some (.ref f_waits))) (F_waits : Fun K "waits" "waits" s_waits f_waits d_waits)
    (a__law_squeezed : PySem.W.nsIn K mainGlobals "_law_squeezed" = some (some (.ref f__law_squeezed))) (F__law_squeezed : Fun K "_law_squeezed" "_law_squeezed" s__law_squeezed f__law_squeezed d__law_squeezed)
    (a__law_day : PySem.W.nsIn K mainGlobals "_law_day" = some (some (.ref f__law_day))) (F__law_day : Fun K "_law_day" "_law_day" s__law_day f__law_day d__law_day)
    (a__law_since : PySem.W.nsIn K mainGlobals "_law_since" = some (some (.ref f__law_since))) (F__law_since : Fun K "_law_since" "_law_since" s__law_since f__law_since d__law_since)
    (a__law_none : PySem.W.nsIn K mainGlobals "_law_none" = some (some (.ref f__law_none))) (F__law_none : Fun K "_law_none" "_law_none" s__law_none f__law_none d__law_none)
    (a__law_asked : PySem.W.nsIn K mainGlobals "_law_asked" = some (some (.ref f__law_asked))) (F__law_asked : Fun K "_law_asked" "_law_asked" s__law_asked f__law_asked d__law_asked)
    (a__law_said : PySem.W.nsIn K mainGlobals "_law_said" = some (some (.ref f__law_said))) (F__law_said : Fun K "_law_said" "_law_said" s__law_said f__law_said d__law_said)
    (a_law : PySem.W.nsIn K mainGlobals "law" = some (some (.ref f_law))) (F_law : Fun K "law" "law" s_law f_law d_law)
    (z_ValueError : PySem.W.nsIn K mainGlobals "ValueError" = some none)
    (z_any : PySem.W.nsIn K mainGlobals "any" = some none)
    (z_bool : PySem.W.nsIn K mainGlobals "bool" = some none)
    (z_enumerate : PySem.W.nsIn K mainGlobals "enumerate" = some none)
    (z_int : PySem.W.nsIn K mainGlobals "int" = some none)
    (z_isinstance : PySem.W.nsIn K mainGlobals "isinstance" = some none)
    (z_len : PySem.W.nsIn K mainGlobals "len" = some none)
    (z_max : PySem.W.nsIn K mainGlobals "max" = some none)
    (z_min : PySem.W.nsIn K mainGlobals "min" = some none)
    (z_range : PySem.W.nsIn K mainGlobals "range" = some none)
    (z_sorted : PySem.W.nsIn K mainGlobals "sorted" = some none)
    (z_tuple : PySem.W.nsIn K mainGlobals "tuple" = some none)
    (g_LONGEST_DAY : PySem.W.nsIn K mainGlobals "LONGEST_DAY" = some (some (.int 1000000 t_LONGEST_DAY)))
    (e_HasIt : PySem.W.nsIn K mainGlobals "HasIt" = some (some (.ref c_HasIt)))
    (e_MeetError : PySem.W.nsIn K mainGlobals "MeetError" = some (some (.ref c_MeetError)))
    (e_NoBook : PySem.W.nsIn K mainGlobals "NoBook" = some (some (.ref c_NoBook)))
    (e_NoClaim : PySem.W.nsIn K mainGlobals "NoClaim" = some (some (.ref c_NoClaim)))
    (e_NoDay : PySem.W.nsIn K mainGlobals "NoDay" = some (some (.ref c_NoDay)))
    (e_NoDeed : PySem.W.nsIn K mainGlobals "NoDeed" = some (some (.ref c_NoDeed)))
    (e_NoLetter : PySem.W.nsIn K mainGlobals "NoLetter" = some (some (.ref c_NoLetter)))
    (e_NoMeeting : PySem.W.nsIn K mainGlobals "NoMeeting" = some (some (.ref c_NoMeeting)))
    (e_NoName : PySem.W.nsIn K mainGlobals "NoName" = some (some (.ref c_NoName)))
    (e_NoPass : PySem.W.nsIn K mainGlobals "NoPass" = some (some (.ref c_NoPass)))
    (e_NoRoom : PySem.W.nsIn K mainGlobals "NoRoom" = some (some (.ref c_NoRoom)))
    (e_NoRow : PySem.W.nsIn K mainGlobals "NoRow" = some (some (.ref c_NoRow)))
    (e_NoRule : PySem.W.nsIn K mainGlobals "NoRule" = some (some (.ref c_NoRule)))
    (e_NoText : PySem.W.nsIn K mainGlobals "NoText" = some (some (.ref c_NoText)))
    (e_NoWalker : PySem.W.nsIn K mainGlobals "NoWalker" = some (some (.ref c_NoWalker)))
    (e_NotThere : PySem.W.nsIn K mainGlobals "NotThere" = some (some (.ref c_NotThere)))
    (e_TooMany : PySem.W.nsIn K mainGlobals "TooMany" = some (some (.ref c_TooMany)))
    (e_Twice : PySem.W.nsIn K mainGlobals "Twice" = some (some (.ref c_Twice)))
    (xx_NoDay : xclsB K c_NoDay = true)
    (ff_f_em : PySem.W.exmOne K (.ref c_NoDay) (.ref c_MeetError) = some true)
    (ff_f_ve : PySem.W.kitOne K (.ref c_NoDay) (.type "ValueError") = some true)
    (ff_f_ka : PySem.W.kitAny K (.ref c_NoDay) [.ref c_NoBook, .ref c_NoClaim, .ref c_NoDeed, .ref c_NoLetter, .ref c_NoMeeting, .ref c_NoName, .ref c_NoPass, .ref c_NoRoom] = some false)
    (ff_f_kb : PySem.W.kitAny K (.ref c_NoDay) [.ref c_NoRow, .ref c_NoRule, .ref c_NoText, .ref c_NotThere, .ref c_NoWalker, .ref c_TooMany, .ref c_Twice, .ref c_HasIt] = some false) :
    ∃ fd : FuncData, (∀ (s : Shared) (v : Value), BindsTo s fd ⟨[v], []⟩ [("_law_script", v)]) ∧ ∀ base : Heap, K.In base → base.Ns mainGlobals mg → FnOk l.prog w K mg base CX0 8 fa fd ["_law_script"] (spLaw K) := by
  have e := hfa.symm.trans (PySem.W.mg_of X G a_law)
  cases e
  have b__law_purse := F__law_purse.binds (ps := ["_law_script", "_law_k"]) fun _ _ _ _ _ _ us hl => us2 hl fun _ _ => rfl
  have b__law_take := F__law_take.binds (ps := ["_law_purse_here", "_law_many"]) fun _ _ _ _ _ _ us hl => us2 hl fun _ _ => rfl
  have b__law_far := F__law_far.binds (ps := ["_law_purse_here"]) fun _ _ _ _ _ _ us hl => us1 hl fun _ => rfl
  have b__law_rooms := F__law_rooms.binds (ps := ["_law_purse_here", "_law_walkers"]) fun _ _ _ _ _ _ us hl => us2 hl fun _ _ => rfl
  have b__law_step := F__law_step.binds (ps := ["_law_purse_here"]) fun _ _ _ _ _ _ us hl => us1 hl fun _ => rfl
  have b__law_meetings := F__law_meetings.binds (ps := ["_law_purse_here", "_law_walkers", "_law_most"]) fun _ _ _ _ _ _ us hl => us3 hl fun _ _ _ => rfl
  have b__law_book := F__law_book.binds (ps := ["_law_purse_here", "_law_most_walkers", "_law_most_meetings"]) fun _ _ _ _ _ _ us hl => us3 hl fun _ _ _ => rfl
  have b_is_whole := F_is_whole.binds (ps := ["thing"]) fun _ _ _ _ _ _ us hl => us1 hl fun _ => rfl
  have b_is_within := F_is_within.binds (ps := ["thing", "least", "most"]) fun _ _ _ _ _ _ us hl => us3 hl fun _ _ _ => rfl
  have b_is_below := F_is_below.binds (ps := ["number", "bound"]) fun _ _ _ _ _ _ us hl => us2 hl fun _ _ => rfl
  have b_meetings_of := F_meetings_of.binds (ps := ["book", "walker"]) fun _ _ _ _ _ _ us hl => us2 hl fun _ _ => rfl
  have b_ways := F_ways.binds (ps := ["book"]) fun _ _ _ _ _ _ us hl => us1 hl fun _ => rfl
  have b_lone_row := F_lone_row.binds (ps := ["book", "walker", "number"]) fun _ _ _ _ _ _ us hl => us3 hl fun _ _ _ => rfl
  have b_need_day := F_need_day.binds (ps := ["book", "day"]) fun _ _ _ _ _ _ us hl => us2 hl fun _ _ => rfl
  have b_first_givings_again := F_first_givings_again.binds (ps := ["book", "day", "sender", "since"]) fun _ _ _ _ _ _ us hl => us4 hl fun _ _ _ _ => rfl
  have b_again_times := F_again_times.binds (ps := ["book", "day", "sender", "since"]) fun _ _ _ _ _ _ us hl => us4 hl fun _ _ _ _ => rfl
  have b_again_chain := F_again_chain.binds (ps := ["book", "day", "sender", "since", "wish"]) fun _ _ _ _ _ _ us hl => us5 hl fun _ _ _ _ _ => rfl
  have b_waits := F_waits.binds (ps := ["book", "day", "walker", "other"]) fun _ _ _ _ _ _ us hl => us4 hl fun _ _ _ _ => rfl
  have b__law_squeezed := F__law_squeezed.binds (ps := ["_law_purse_here", "_law_book_here"]) fun _ _ _ _ _ _ us hl => us2 hl fun _ _ => rfl
  have b__law_day := F__law_day.binds (ps := ["_law_purse_here", "_law_book_here"]) fun _ _ _ _ _ _ us hl => us2 hl fun _ _ => rfl
  have b__law_since := F__law_since.binds (ps := ["_law_purse_here", "_law_book_here", "_law_day_here"]) fun _ _ _ _ _ _ us hl => us3 hl fun _ _ _ => rfl
  have b__law_none := F__law_none.binds (ps := ["_law_purse_here", "_law_book_here"]) fun _ _ _ _ _ _ us hl => us2 hl fun _ _ => rfl
  have b__law_asked := F__law_asked.binds (ps := ["_law_book_here", "_law_day_here", "_law_way", "_law_since_here"]) fun _ _ _ _ _ _ us hl => us4 hl fun _ _ _ _ => rfl
  have b__law_said := F__law_said.binds (ps := ["_law_book_here", "_law_day_here", "_law_way", "_law_since_here"]) fun _ _ _ _ _ _ us hl => us4 hl fun _ _ _ _ => rfl
  have b_law := F_law.binds (ps := ["_law_script"]) fun _ _ _ _ _ _ us hl => us1 hl fun _ => rfl
  have T : Tx K mg ⟨f__law_purse, d__law_purse, f__law_take, d__law_take, f__law_far, d__law_far, f__law_rooms, d__law_rooms, f__law_step, d__law_step, f__law_meetings, d__law_meetings, f__law_book, d__law_book, f_is_whole, d_is_whole, f_is_within, d_is_within, f_is_below, d_is_below, f_meetings_of, d_meetings_of, f_ways, d_ways, f_lone_row, d_lone_row, f_need_day, d_need_day, f_first_givings_again, d_first_givings_again, f_again_times, d_again_times, f_again_chain, d_again_chain, f_waits, d_waits, f__law_squeezed, d__law_squeezed, f__law_day, d__law_day, f__law_since, d__law_since, f__law_none, d__law_none, f__law_asked, d__law_asked, f__law_said, d__law_said, fa, d_law, c_HasIt, c_MeetError, c_NoBook, c_NoClaim, c_NoDay, c_NoDeed, c_NoLetter, c_NoMeeting, c_NoName, c_NoPass, c_NoRoom, c_NoRow, c_NoRule, c_NoText, c_NoWalker, c_NotThere, c_TooMany, c_Twice⟩ t_LONGEST_DAY := ⟨F__law_purse, b__law_purse, PySem.W.mg_of X G a__law_purse, F__law_purse.kp, F__law_take, b__law_take, PySem.W.mg_of X G a__law_take, F__law_take.kp, F__law_far, b__law_far, PySem.W.mg_of X G a__law_far, F__law_far.kp, F__law_rooms, b__law_rooms, PySem.W.mg_of X G a__law_rooms, F__law_rooms.kp, F__law_step, b__law_step, PySem.W.mg_of X G a__law_step, F__law_step.kp, F__law_meetings, b__law_meetings, PySem.W.mg_of X G a__law_meetings, F__law_meetings.kp, F__law_book, b__law_book, PySem.W.mg_of X G a__law_book, F__law_book.kp, F_is_whole, b_is_whole, PySem.W.mg_of X G a_is_whole, F_is_whole.kp, F_is_within, b_is_within, PySem.W.mg_of X G a_is_within, F_is_within.kp, F_is_below, b_is_below, PySem.W.mg_of X G a_is_below, F_is_below.kp, F_meetings_of, b_meetings_of, PySem.W.mg_of X G a_meetings_of, F_meetings_of.kp, F_ways, b_ways, PySem.W.mg_of X G a_ways, F_ways.kp, F_lone_row, b_lone_row, PySem.W.mg_of X G a_lone_row, F_lone_row.kp, F_need_day, b_need_day, PySem.W.mg_of X G a_need_day, F_need_day.kp, F_first_givings_again, b_first_givings_again, PySem.W.mg_of X G a_first_givings_again, F_first_givings_again.kp, F_again_times, b_again_times, PySem.W.mg_of X G a_again_times, F_again_times.kp, F_again_chain, b_again_chain, PySem.W.mg_of X G a_again_chain, F_again_chain.kp, F_waits, b_waits, PySem.W.mg_of X G a_waits, F_waits.kp, F__law_squeezed, b__law_squeezed, PySem.W.mg_of X G a__law_squeezed, F__law_squeezed.kp, F__law_day, b__law_day, PySem.W.mg_of X G a__law_day, F__law_day.kp, F__law_since, b__law_since, PySem.W.mg_of X G a__law_since, F__law_since.kp, F__law_none, b__law_none, PySem.W.mg_of X G a__law_none, F__law_none.kp, F__law_asked, b__law_asked, PySem.W.mg_of X G a__law_asked, F__law_asked.kp, F__law_said, b__law_said, PySem.W.mg_of X G a__law_said, F__law_said.kp, F_law, b_law, PySem.W.mg_of X G a_law, F_law.kp, PySem.W.mg_none_of X G z_ValueError, PySem.W.mg_none_of X G z_any, PySem.W.mg_none_of X G z_bool, PySem.W.mg_none_of X G z_enumerate, PySem.W.mg_none_of X G z_int, PySem.W.mg_none_of X G z_isinstance, PySem.W.mg_none_of X G z_len, PySem.W.mg_none_of X G z_max, PySem.W.mg_none_of X G z_min, PySem.W.mg_none_of X G z_range, PySem.W.mg_none_of X G z_sorted, PySem.W.mg_none_of X G z_tuple, PySem.W.mg_of X G e_HasIt, PySem.W.mg_of X G e_MeetError, PySem.W.mg_of X G e_NoBook, PySem.W.mg_of X G e_NoClaim, PySem.W.mg_of X G e_NoDay, PySem.W.mg_of X G e_NoDeed, PySem.W.mg_of X G e_NoLetter, PySem.W.mg_of X G e_NoMeeting, PySem.W.mg_of X G e_NoName, PySem.W.mg_of X G e_NoPass, PySem.W.mg_of X G e_NoRoom, PySem.W.mg_of X G e_NoRow, PySem.W.mg_of X G e_NoRule, PySem.W.mg_of X G e_NoText, PySem.W.mg_of X G e_NoWalker, PySem.W.mg_of X G e_NotThere, PySem.W.mg_of X G e_TooMany, PySem.W.mg_of X G e_Twice, XCls.of xx_NoDay, ff_f_em, ff_f_ve, ff_f_ka, ff_f_kb, PySem.W.mg_of X G g_LONGEST_DAY⟩
  obtain ⟨_, _, _, _, _, _, _, _, _, rfl, _, _⟩ := F_law.ex
  exact ⟨_, fun s v => .of_eq rfl, fun base _ _ => ok_law T⟩
theorem walk {l : PySem.W.OpenLaw} {q : Program} {loose : List Str} {XP : (Str → Option Value) → Heap → Prop} {YP : World → Heap → Prop} {d : DefRec} {K : Params → PySem.W.Frag} (hn : l.most = some 63) (hdf : d.params.defaults = [])
    (hY : ∀ (w : World) (h : Heap), YP w h → (K w.params).In h)
    (F : ∀ (w : World) (mg : Str → Option Value) (fa : Addr) (h : Heap), (K w.params).In h → h.Ns mainGlobals mg → mg d.name = some (.ref fa) →
      ∃ fd : FuncData, (∀ (s : Shared) (u : Value), BindsTo s fd ⟨[u], []⟩ [("_law_script", u)]) ∧ ∀ base : Heap, (K w.params).In base → base.Ns mainGlobals mg → FnOk l.prog w (K w.params) mg base CX0 8 fa fd ["_law_script"] (spLaw (K w.params))) :
    PySem.W.WalkO q loose XP YP l.row.toRowW d [] (fun f vs => PySem.call f vs) :=
  L2.walk_of (n := 63) (k := 8) (x := "_law_script") (CX := fun _ => CX0) (sp := fun w => spLaw (K w.params)) hn (by decide) hdf ⟨rfl, by decide, by decide⟩ hY F (fun _ _ a ns hl _ hS => ⟨a, ns, rfl, hS, hl, fun _ => rfl⟩) fun _ _ _ _ _ z => z
end Sm
namespace PySem.W.Fast
def tw10594708632001809852 : Nat := 0
def tw1365232280545533093 : Nat := 0
def tw6148752104433049899 : Nat := 0
def tw10537794018356517106 : Nat := 0
def tw11284643400319797838 : Nat := 0
def tw11158011660606372006 : Nat := 0
def tw5223602148545464903 : Nat := 0
def tw11074418070497503796 : Nat := 0
def tw8505654787669548334 : Nat := 0
def tw10142705241092358595 : Nat := 0
def tw2352855556656347278 : Nat := 0
def tw5670793836854707340 : Nat := 0
def tw3337396136390267279 : Nat := 0
def tw4458674945353612057 : Nat := 0
def tw18410319104481309595 : Nat := 0
def tw15841847294367211953 : Nat := 0
def tw6622178883777958305 : Nat := 0
def tw9304743469293588304 : Nat := 0
def tw6315055894759763073 : Nat := 0
def tw12589930191664043085 : Nat := 0
def tw3565023547760663017 : Nat := 0
def tw13350301432504872445 : Nat := 0
def tw16072730989351684868 : Nat := 0
def tw8070062550487690725 : Nat := 0
def tw2038515005819674815 : Nat := 0
def tw2430811407449719283 : Nat := 0
def tw7507359708159083962 : Nat := 0
def tw16422995226952252110 : Nat := 0
def tw17151362961651161713 : Nat := 0
def tw10594692391738340854 : Nat := 0
def tw10130632854419247931 : Nat := 0
def tw12688223782212867763 : Nat := 0
def tw4560304050518704613 : Nat := 0
def tw15082194843320962143 : Nat := 0
def tw18086715365614041492 : Nat := 0
def tw14330301390752828328 : Nat := 0
def tw16764494417431529749 : Nat := 0
def tw13168334873740374649 : Nat := 0
def tw6589425116778077515 : Nat := 0
def tw6495857070665575469 : Nat := 0
def tw11955487783122945792 : Nat := 0
def tw2549968259215232564 : Nat := 0
def tw3788933969220329258 : Nat := 0
def tw4197302809863319673 : Nat := 0
def tw12184854417963087287 : Nat := 0
def tw3421617796347926601 : Nat := 0
def tw2951176904009460927 : Nat := 0
def tw8651949015251167003 : Nat := 0
def tw2456818558291477176 : Nat := 0
def tw16217595391527592079 : Nat := 0
def tw8270365942117805091 : Nat := 0
def tw17738281916714869203 : Nat := 0
def tw5627701659209742742 : Nat := 0
def tw10275194667782451230 : Nat := 0
def tw15893297779257197762 : Nat := 0
def tw10121970049641783426 : Nat := 0
def tw11651038962182166004 : Nat := 0
def tw4589650149066449288 : Nat := 0
def tw11688897596059747225 : Nat := 0
def tw2955065632197002311 : Nat := 0
def tw14952818390969035482 : Nat := 0
def tw5925911678383485945 : Nat := 0
def tw15089254990898597075 : Nat := 0
def tw5253785443845061989 : Nat := 0
def tw16955737352061152699 : Nat := 0
def tw16772966881793976672 : Nat := 0
def tw7389596989596018334 : Nat := 0
def tw4796977433658806126 : Nat := 0
def tw17609979915393938381 : Nat := 0
def tw5354101306554165926 : Nat := 0
def tw7594603506077234368 : Nat := 0
def tw461229554785166672 : Nat := 0
def tw17149939108925066100 : Nat := 0
def tw16901571882447165141 : Nat := 0
def tw1292015886180885622 : Nat := 0
def tw12221938008665099767 : Nat := 0
def tw11935873242756265992 : Nat := 0
def tw6967830722945345480 : Nat := 0
def tw8421375574914912904 : Nat := 0
def tw10293155600664512689 : Nat := 0
def tw14967196857243008404 : Nat := 0
def tw12815197077159830263 : Nat := 0
def tw7830067544665914887 : Nat := 0
def tw17030988150269475709 : Nat := 0
def tw12764249722065272788 : Nat := 0
def tw6077150570614783788 : Nat := 0
def tw8146010067528240585 : Nat := 0
def tw9964914339716372998 : Nat := 0
def tw7609156739651360006 : Nat := 0
def tw16056522559290666193 : Nat := 0
def tw12599263900705026765 : Nat := 0
def tw10209067758477462604 : Nat := 0
def tw7156112521482984132 : Nat := 0
def tw3622085742458091547 : Nat := 0
def tw18343015607252359380 : Nat := 0
def tw1885679346616308839 : Nat := 0
def tw16242741606711134513 : Nat := 0
def tw16484187460567490462 : Nat := 0
def tw3266405775370662274 : Nat := 0
def tw550825697812419436 : Nat := 0
def tw5561682234134271198 : Nat := 0
end PySem.W.Fast
open PySem PySem.W PyProof.Rows
set_option maxRecDepth 100000 in
set_option maxHeartbeats 0 in
theorem PySem.Challenge.cw_satchelmeet_k65_days_refused_holds : PySem.Challenge.rw_satchelmeet_k65_days_refused.Holds := by
  w_on; o_law; k_head; (case hw => w_witness2)
  k_fill
  refine Sm.walk (l := PySem.Challenge.rw_satchelmeet_k65_days_refused) rfl rfl (fun w h Y => PySem.W.kIn_of Y) ?F
  case F =>
    intro w mg fa h KX G hmg
    refine' Sm.all_mk KX G hmg ?a__law_purse ?F__law_purse ?a__law_take ?F__law_take ?a__law_far ?F__law_far ?a__law_rooms ?F__law_rooms ?a__law_step ?F__law_step ?a__law_meetings ?F__law_meetings ?a__law_book ?F__law_book ?a_is_whole ?F_is_whole ?a_is_within ?F_is_within ?a_is_below ?F_is_below ?a_meetings_of ?F_meetings_of ?a_ways ?F_ways ?a_lone_row ?F_lone_row ?a_need_day ?F_need_day ?a_first_givings_again ?F_first_givings_again ?a_again_times ?F_again_times ?a_again_chain ?F_again_chain ?a_waits ?F_waits ?a__law_squeezed ?F__law_squeezed ?a__law_day ?F__law_day ?a__law_since ?F__law_since ?a__law_none ?F__law_none ?a__law_asked ?F__law_asked ?a__law_said ?F__law_said ?a_law ?F_law ?z_ValueError ?z_any ?z_bool ?z_enumerate ?z_int ?z_isinstance ?z_len ?z_max ?z_min ?z_range ?z_sorted ?z_tuple ?g_LONGEST_DAY ?e_HasIt ?e_MeetError ?e_NoBook ?e_NoClaim ?e_NoDay ?e_NoDeed ?e_NoLetter ?e_NoMeeting ?e_NoName ?e_NoPass ?e_NoRoom ?e_NoRow ?e_NoRule ?e_NoText ?e_NoWalker ?e_NotThere ?e_TooMany ?e_Twice ?xx_NoDay ?ff_f_em ?ff_f_ve ?ff_f_ka ?ff_f_kb
    (case e_HasIt => k_is)
    (case e_MeetError => k_is)
    (case e_NoBook => k_is)
    (case e_NoClaim => k_is)
    (case e_NoDay => k_is)
    (case e_NoDeed => k_is)
    (case e_NoLetter => k_is)
    (case e_NoMeeting => k_is)
    (case e_NoName => k_is)
    (case e_NoPass => k_is)
    (case e_NoRoom => k_is)
    (case e_NoRow => k_is)
    (case e_NoRule => k_is)
    (case e_NoText => k_is)
    (case e_NoWalker => k_is)
    (case e_NotThere => k_is)
    (case e_TooMany => k_is)
    (case e_Twice => k_is)
    (case a__law_purse => k_is)
    (case F__law_purse => refine' L2.fun_mk ?x1 ?y1 ?z1; (case x1 => k_is); (case y1 => k_is); (case z1 => k_is))
    (case a__law_take => k_is)
    (case F__law_take => refine' L2.fun_mk ?x3 ?y3 ?z3; (case x3 => k_is); (case y3 => k_is); (case z3 => k_is))
    (case a__law_far => k_is)
    (case F__law_far => refine' L2.fun_mk ?x5 ?y5 ?z5; (case x5 => k_is); (case y5 => k_is); (case z5 => k_is))
    (case a__law_rooms => k_is)
    (case F__law_rooms => refine' L2.fun_mk ?x7 ?y7 ?z7; (case x7 => k_is); (case y7 => k_is); (case z7 => k_is))
    (case a__law_step => k_is)
    (case F__law_step => refine' L2.fun_mk ?x9 ?y9 ?z9; (case x9 => k_is); (case y9 => k_is); (case z9 => k_is))
    (case a__law_meetings => k_is)
    (case F__law_meetings => refine' L2.fun_mk ?x11 ?y11 ?z11; (case x11 => k_is); (case y11 => k_is); (case z11 => k_is))
    (case a__law_book => k_is)
    (case F__law_book => refine' L2.fun_mk ?x13 ?y13 ?z13; (case x13 => k_is); (case y13 => k_is); (case z13 => k_is))
    (case a_is_whole => k_is)
    (case F_is_whole => refine' L2.fun_mk ?x15 ?y15 ?z15; (case x15 => k_is); (case y15 => k_is); (case z15 => k_is))
    (case a_is_within => k_is)
    (case F_is_within => refine' L2.fun_mk ?x17 ?y17 ?z17; (case x17 => k_is); (case y17 => k_is); (case z17 => k_is))
    (case a_is_below => k_is)
    (case F_is_below => refine' L2.fun_mk ?x19 ?y19 ?z19; (case x19 => k_is); (case y19 => k_is); (case z19 => k_is))
    (case a_meetings_of => k_is)
    (case F_meetings_of => refine' L2.fun_mk ?x21 ?y21 ?z21; (case x21 => k_is); (case y21 => k_is); (case z21 => k_is))
    (case a_ways => k_is)
    (case F_ways => refine' L2.fun_mk ?x23 ?y23 ?z23; (case x23 => k_is); (case y23 => k_is); (case z23 => k_is))
    (case a_lone_row => k_is)
    (case F_lone_row => refine' L2.fun_mk ?x25 ?y25 ?z25; (case x25 => k_is); (case y25 => k_is); (case z25 => k_is))
    (case a_need_day => k_is)
    (case F_need_day => refine' L2.fun_mk ?x27 ?y27 ?z27; (case x27 => k_is); (case y27 => k_is); (case z27 => k_is))
    (case a_first_givings_again => k_is)
    (case F_first_givings_again => refine' L2.fun_mk ?x29 ?y29 ?z29; (case x29 => k_is); (case y29 => k_is); (case z29 => k_is))
    (case a_again_times => k_is)
    (case F_again_times => refine' L2.fun_mk ?x31 ?y31 ?z31; (case x31 => k_is); (case y31 => k_is); (case z31 => k_is))
    (case a_again_chain => k_is)
    (case F_again_chain => refine' L2.fun_mk ?x33 ?y33 ?z33; (case x33 => k_is); (case y33 => k_is); (case z33 => k_is))
    (case a_waits => k_is)
    (case F_waits => refine' L2.fun_mk ?x35 ?y35 ?z35; (case x35 => k_is); (case y35 => k_is); (case z35 => k_is))
    (case a__law_squeezed => k_is)
    (case F__law_squeezed => refine' L2.fun_mk ?x37 ?y37 ?z37; (case x37 => k_is); (case y37 => k_is); (case z37 => k_is))
    (case a__law_day => k_is)
    (case F__law_day => refine' L2.fun_mk ?x39 ?y39 ?z39; (case x39 => k_is); (case y39 => k_is); (case z39 => k_is))
    (case a__law_since => k_is)
    (case F__law_since => refine' L2.fun_mk ?x41 ?y41 ?z41; (case x41 => k_is); (case y41 => k_is); (case z41 => k_is))
    (case a__law_none => k_is)
    (case F__law_none => refine' L2.fun_mk ?x43 ?y43 ?z43; (case x43 => k_is); (case y43 => k_is); (case z43 => k_is))
    (case a__law_asked => k_is)
    (case F__law_asked => refine' L2.fun_mk ?x45 ?y45 ?z45; (case x45 => k_is); (case y45 => k_is); (case z45 => k_is))
    (case a__law_said => k_is)
    (case F__law_said => refine' L2.fun_mk ?x47 ?y47 ?z47; (case x47 => k_is); (case y47 => k_is); (case z47 => k_is))
    (case a_law => k_is)
    (case F_law => refine' L2.fun_mk ?x49 ?y49 ?z49; (case x49 => k_is); (case y49 => k_is); (case z49 => k_is))
    (case z_ValueError => k_is)
    (case z_any => k_is)
    (case z_bool => k_is)
    (case z_enumerate => k_is)
    (case z_int => k_is)
    (case z_isinstance => k_is)
    (case z_len => k_is)
    (case z_max => k_is)
    (case z_min => k_is)
    (case z_range => k_is)
    (case z_sorted => k_is)
    (case z_tuple => k_is)
    (case g_LONGEST_DAY => k_is)
    (case xx_NoDay => kernel_rfl)
    (case ff_f_em => kernel_rfl)
    (case ff_f_ve => kernel_rfl)
    (case ff_f_ka => kernel_rfl)
    (case ff_f_kb => kernel_rfl)

