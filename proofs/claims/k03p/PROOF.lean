import PyProof.Rows.All
import Wide.All
import OpenK.AllK
import Wide.FinOn
import Lean
import PyProof.EqAt
import PyProof.EqKinds
import PyProof.TupleCall
import KE.KRevIter
import KE.KDictOf
import PyProof.AttrMissHeap
import PyProof.StrWalks
import PyProof.StrBlockI
import PyProof.FString5
import PyProof.SetRoads
import PyProof.SetNew
import PyProof.TupleKey
import PyProof.InstEq
import PySem.SetOps
import PyProof.ReprRoads
import PyProof.ReprBulk
import KE.KTryMore
import PyProof.NsDelKeeps
import KE.KLam
import KE.KNestM
import KE.KSortTup
import PySem.Challenge.RW_satchelmeet_k03_books_refused
set_option Elab.async false
set_option linter.all false
set_option maxRecDepth 100000
namespace L2
open PySem PySem.Spec PyProof.Rows
abbrev Key := Sum Int Str
def keyIs : Key → Value → Bool
  | .inl k, v => Value.isInt k v
  | .inr x, v => Value.isStrOf x v
def keyH (w : World) : Key → Int
  | .inl k => hashInt k
  | .inr x => hashStr w x
theorem keyIs_shape : ∀ {k : Key} {v : Value}, keyIs k v = true → (∃ i t, k = Sum.inl i ∧ v = Value.int i t) ∨ (∃ x t, k = Sum.inr x ∧ v = Value.str x t)
  | .inl i, v, h => by
    obtain ⟨t, e⟩ := Value.isInt_shape (k := i) (v := v) h
    exact .inl ⟨i, t, rfl, e⟩
  | .inr x, v, h => by
    obtain ⟨t, e⟩ := Value.isStrOf_shape (x := x) (v := v) h
    exact .inr ⟨x, t, rfl, e⟩
theorem keyIs_int (i : Int) (t : Tok) : keyIs (.inl i) (.int i t) = true := by simp [keyIs, Value.isInt]
theorem keyIs_str (x : Str) (t : Tok) : keyIs (.inr x) (.str x t) = true := by simp [keyIs, Value.isStrOf]
theorem key_ll (a b : Int) : decide ((Sum.inl a : Key) = Sum.inl b) = (a == b) := by
  by_cases e : a = b
  · subst e; simp
  · have h : ¬ (Sum.inl a : Key) = Sum.inl b := fun q => e (Sum.inl.inj q)
    rw [decide_eq_false h]
    exact (beq_eq_false_iff_ne.mpr e).symm
theorem key_rr (a b : Str) : decide ((Sum.inr a : Key) = Sum.inr b) = decide (a = b) := by
  by_cases e : a = b
  · subst e; simp
  · have h : ¬ (Sum.inr a : Key) = Sum.inr b := fun q => e (Sum.inr.inj q)
    rw [decide_eq_false h, decide_eq_false e]
theorem key_lr (a : Int) (b : Str) : decide ((Sum.inl a : Key) = Sum.inr b) = false := decide_eq_false (fun q => nomatch q)
theorem key_rl (a : Str) (b : Int) : decide ((Sum.inr a : Key) = Sum.inl b) = false := decide_eq_false (fun q => nomatch q)
def mixKind (prog : Program) (w : World) : PySem.KeyKind prog w Key where
  is := keyIs
  hash := keyH w
  inj := fun v a b ha hb => by
    rcases keyIs_shape ha with ⟨i, t, rfl, rfl⟩ | ⟨x, t, rfl, rfl⟩
    · rcases keyIs_shape hb with ⟨j, u, rfl, e⟩ | ⟨y, u, rfl, e⟩
      · injection e with e1 _; rw [e1]
      · exact nomatch e
    · rcases keyIs_shape hb with ⟨j, u, rfl, e⟩ | ⟨y, u, rfl, e⟩
      · exact nomatch e
      · injection e with e1 _; rw [e1]
  byValue := fun k v h => by
    rcases keyIs_shape h with ⟨i, t, rfl, rfl⟩ | ⟨x, t, rfl, rfl⟩ <;> rfl
  pyHash := fun hv h => by
    rcases keyIs_shape hv with ⟨i, t, rfl, rfl⟩ | ⟨x, t, rfl, rfl⟩
    · exact wpAny_pyHash_int h
    · exact wpAny_pyHash_str h
  eqBool := fun hu hv h => by
    rcases keyIs_shape hu with ⟨i, t, rfl, rfl⟩ | ⟨x, t, rfl, rfl⟩
    · rcases keyIs_shape hv with ⟨j, u, rfl, rfl⟩ | ⟨y, u, rfl, rfl⟩
      · rw [key_ll] at h; exact wpAny_eqBool_int h
      · rw [key_lr] at h; exact SeqAt.EqAt.int_str i t y u _ _ _ _ h
    · rcases keyIs_shape hv with ⟨j, u, rfl, rfl⟩ | ⟨y, u, rfl, rfl⟩
      · rw [key_rl] at h; exact SeqAt.EqAt.str_int x t j u _ _ _ _ h
      · rw [key_rr] at h; exact wpAny_eqBool_str h
  «strs» := fun k x t v h => by
    rcases keyIs_shape h with ⟨i, u, rfl, e⟩ | ⟨y, u, rfl, e⟩
    · exact nomatch e
    · injection e with e1 _
      subst e1
      cases v <;> rfl
theorem mixKind_int (prog : Program) (w : World) (i : Int) (t : Tok) : (mixKind prog w).is (.inl i) (.int i t) = true := keyIs_int i t
theorem mixKind_str (prog : Program) (w : World) (x : Str) (t : Tok) : (mixKind prog w).is (.inr x) (.str x t) = true := keyIs_str x t
end L2
namespace L2
open PySem PySem.Spec PyProof.Rows
inductive V where
  | non | bl (b : Bool) | int (i : Int) | str (x : Str) | byt (b : Array UInt8) | flt (b : UInt64) | ref (a : Addr) | ty (n : String)
  deriving DecidableEq
def RelV : V → Value → Prop
  | .non, u => u = Value.none
  | .bl b, u => u = Value.bool b
  | .int i, u => ∃ t, u = Value.int i t
  | .str x, u => ∃ t, u = Value.str x t
  | .byt b, u => ∃ t, u = Value.bytes b t
  | .flt b, u => ∃ t, u = Value.float b t
  | .ref a, u => u = Value.ref a
  | .ty n, u => u = Value.type n
abbrev Vals : List V → List Value → Prop := Paired RelV
theorem Vals.length {xs : List V} {us : List Value} (r : Vals xs us) : xs.length = us.length := Paired.length r
theorem Vals.get : ∀ {xs : List V} {us : List Value} {i : Nat} {x : V}, Vals xs us → xs[i]? = some x → ∃ u, us[i]? = some u ∧ RelV x u
  | _, _, _, _, .nil, e => by simp at e
  | _, _, 0, _, .cons r _, e => by simp at e; subst e; exact ⟨_, rfl, r⟩
  | _, _, i + 1, x, .cons _ t, e => by
    obtain ⟨u, h1, h2⟩ := Vals.get (i := i) (x := x) t (by simpa using e)
    exact ⟨u, by simpa using h1, h2⟩
theorem Vals.set {x : V} {u : Value} (r : RelV x u) : ∀ {xs : List V} {us : List Value} (i : Nat), Vals xs us → Vals (xs.set i x) (us.set i u)
  | _, _, _, .nil => .nil
  | _, _, 0, .cons _ t => .cons r t
  | _, _, i + 1, .cons q t => .cons q (Vals.set r i t)
theorem Vals.append : ∀ {xs ys : List V} {us ws : List Value}, Vals xs us → Vals ys ws → Vals (xs ++ ys) (us ++ ws)
  | _, _, _, _, .nil, s => s
  | _, _, _, _, .cons r t, s => .cons r (Vals.append t s)
theorem Vals.take : ∀ {xs : List V} {us : List Value} (n : Nat), Vals xs us → Vals (xs.take n) (us.take n)
  | _, _, 0, _ => .nil
  | _, _, _ + 1, .nil => .nil
  | _, _, n + 1, .cons r t => .cons r (Vals.take n t)
theorem Vals.drop : ∀ {xs : List V} {us : List Value} (n : Nat), Vals xs us → Vals (xs.drop n) (us.drop n)
  | _, _, 0, r => r
  | _, _, _ + 1, .nil => .nil
  | _, _, n + 1, .cons _ t => Vals.drop n t
def RelO : Option V → Option Value → Prop
  | some v, some u => RelV v u
  | none, none => True
  | _, _ => False
def KV {κ : Type} : List (κ × V) → List (κ × Value) → Prop := Paired fun (p : κ × V) (q : κ × Value) => p.1 = q.1 ∧ RelV p.2 q.2
def kV : Key → V
  | .inl i => .int i
  | .inr x => .str x
inductive HO where
    | lst (xs : List V)
    | tup (xs : List V)
    | dK (kvs : List (Key × V)) | dT (kvs : List (List Key × V))
    | set (S : Int → Bool) (n : Nat)
    | ins (C dx : Addr) (fs : List (Str × V))
    | own (x : Addr)
    | xd (fs : List (Str × V))
    | met (f x : Addr)
    | rng (lo hi : Int)
    | frz (o : Obj) (u : HO)
    | tbl (ps : Array Value)
    | ext (φ : Heap → Prop)
abbrev Hp := Addr → Option HO
def upd (H : Hp) (a : Addr) (o : HO) : Hp := fun b => if b = a then some o else H b
theorem upd_same {H : Hp} {a : Addr} {o : HO} : upd H a o a = some o := by unfold upd; rw [if_pos rfl]
theorem upd_ne {H : Hp} {a b : Addr} {o : HO} (h : b ≠ a) : upd H a o b = H b := by unfold upd; rw [if_neg h]
theorem ne_of {H : Hp} {a b : Addr} {o u : HO} (h : H a = some o) (h' : H b = some u) (d : o ≠ u) : a ≠ b := by
  intro e; subst e; rw [h] at h'; exact d (Option.some.inj h')
theorem ne_of_none {H : Hp} {a b : Addr} {o : HO} (h : H a = some o) (h' : H b = none) : a ≠ b := by
  intro e; subst e; rw [h] at h'; cases h'
theorem new_bare {h : Heap} {o : Obj} (hf : o.isFreed = false := by rfl) (hd : o.dict = none := by rfl) : ∀ ob, (h.push o).get? h.objs.size = some ob → ob.dict = none := fun ob e => by
  rw [Heap.get?_push_size h hf] at e; cases e; exact hd
section
variable (P : Program) (w : World)
def ObjOk (H : Hp) (h : Heap) (a : Addr) : HO → Prop
  | .lst xs => xs.length ≤ sizeLine ∧ ∃ (its : List Value) (n : Nat), Vals xs its ∧ h.get? a = some { cls := .type "list", data := .seq its.toArray n }
  | .tup xs => (xs.length ≤ sizeLine ∧ ∀ ob, h.get? a = some ob → ob.dict = none) ∧ ∃ its : List Value, Vals xs its ∧ IsTup h a its.toArray
  | .dK kvs => kvs.length ≤ sizeLine ∧ (a == sysModules) = false ∧ ∃ vs, KV kvs vs ∧ h.DictOf (mixKind P w) a vs
  | .dT kvs => kvs.length ≤ sizeLine ∧ (a == sysModules) = false ∧ ∃ xs : List (List Key × Addr × Value),
      Paired (fun (p : List Key × V) (q : List Key × Addr × Value) => p.1 = q.1 ∧ H q.2.1 = some (.tup (p.1.map kV)) ∧ RelV p.2 q.2.2) kvs xs ∧
      ∃ o es ep, h.get? a = some o ∧ o.ExactDict ∧ o.data = .dict es ep ∧ es.toList = xs.map (entryOfKey (tupleKind (mixKind P w))) ∧ (xs.map (·.1)).Nodup
  | .set S n => h.SetOf (intKind P w) a S n
  | .ins C dx fs => H dx = some (.own a) ∧ fs.length ≤ 1000 ∧ dx ≠ a ∧ h.get? a = some (PySem.W.instObj C dx) ∧
      ∃ mA, h.Ns1 dx mA ∧ (∀ f, RelO (fs.lookup f) (mA f)) ∧ PySem.Within mA (fs.map (·.1))
  | .own _ => ∃ o, h.get? a = some o
  | .xd fs => ∃ mA, h.Ns1 a mA ∧ ∀ f, RelO (fs.lookup f) (mA f)
  | .rng lo hi => ∃ t u v, h.get? a = some { cls := .type "range", data := .fields #[.int lo t, .int hi u, .int 1 v] }
  | .frz o u => h.get? a = some o ∧ ObjOk H h a u
  | .tbl ps => h.get? a = some { cls := .none, data := .fields ps }
  | .met f x => h.get? a = some (PySem.W.methodObj (.ref f) (.ref x))
  | .ext φ => φ h ∧ (∃ o, h.get? a = some o) ∧ ∀ h1 h2 : Heap, φ h1 → (∀ o, h1.get? a = some o → h2.get? a = some o) → φ h2
def HOk (H : Hp) (h : Heap) : Prop := ∀ a o, H a = some o → ObjOk P w H h a o
end
section
variable {P : Program} {w : World} {H H' : Hp} {h h' : Heap} {a : Addr} {o : HO}
theorem ObjOk.lt (x : ObjOk P w H h a o) : a < h.objs.size := by
  cases o with
  | lst xs => obtain ⟨_, _, _, _, e⟩ := x; exact Heap.lt_size e
  | tup xs => obtain ⟨_, _, _, p⟩ := x; exact p.lt
  | dK kvs => obtain ⟨_, _, _, _, o, _, _, e, _⟩ := x; exact Heap.lt_size e
  | dT kvs => obtain ⟨_, _, _, _, o, _, _, e, _⟩ := x; exact Heap.lt_size e
  | set S n => obtain ⟨o, _, _, _, e, _⟩ := x; exact Heap.lt_size e
  | ins C dx fs => obtain ⟨_, _, _, e, _⟩ := x; exact Heap.lt_size e
  | own y => obtain ⟨_, e⟩ := x; exact Heap.lt_size e
  | xd fs => obtain ⟨_, ⟨_, _, _, e, _⟩, _⟩ := x; exact Heap.lt_size e
  | rng lo hi => obtain ⟨_, _, _, e⟩ := x; exact Heap.lt_size e
  | frz ob u => obtain ⟨e, _⟩ := x; exact Heap.lt_size e
  | tbl ps => exact Heap.lt_size (show h.get? a = some _ from x)
  | met f y => exact Heap.lt_size (show h.get? a = some _ from x)
  | ext φ => obtain ⟨_, ⟨_, e⟩, _⟩ := x; exact Heap.lt_size e
theorem Paired.mapP {α β : Type} {F G : α → β → Prop} : ∀ {l₁ : List α} {l₂ : List β}, Paired F l₁ l₂ → (∀ a b, F a b → G a b) → Paired G l₁ l₂
  | _, _, .nil, _ => .nil
  | _, _, .cons r t, f => .cons (f _ _ r) (Paired.mapP t f)
theorem ObjOk.stay (x : ObjOk P w H h a o) (k : ∀ b u, (b = a ∨ H b = some (.own a)) → h.get? b = some u → h'.get? b = some u)
    (ho : ∀ b, H b = some (.own a) → H' b = some (.own a)) (ht : ∀ b xs, H b = some (.tup xs) → H' b = some (.tup xs)) : ObjOk P w H' h' a o := by
  induction o with
  | lst xs => obtain ⟨z, its, n, r, e⟩ := x; exact ⟨z, its, n, r, k _ _ (.inl rfl) e⟩
  | tup xs => obtain ⟨z, its, r, ob, e, c⟩ := x; exact ⟨⟨z.1, fun ob' e' => by rw [k _ _ (.inl rfl) e] at e'; cases e'; exact z.2 _ e⟩, its, r, ob, k _ _ (.inl rfl) e, c⟩
  | dK kvs => obtain ⟨z, y, vs, r, ob, es, ep, e, c⟩ := x; exact ⟨z, y, vs, r, ob, es, ep, k _ _ (.inl rfl) e, c⟩
  | dT kvs =>
    obtain ⟨z, y, xs, r, ob, es, ep, e, c⟩ := x
    exact ⟨z, y, xs, Paired.mapP r fun p q z => ⟨z.1, ht _ _ z.2.1, z.2.2⟩, ob, es, ep, k _ _ (.inl rfl) e, c⟩
  | set S n => obtain ⟨ob, es, ep, t, e, c⟩ := x; exact ⟨ob, es, ep, t, k _ _ (.inl rfl) e, c⟩
  | ins C dx fs =>
    obtain ⟨d, z, ne, e, mA, ⟨od, es, ep, e2, c⟩, r⟩ := x
    exact ⟨ho _ d, z, ne, k _ _ (.inl rfl) e, mA, ⟨od, es, ep, k _ _ (.inr d) e2, c⟩, r⟩
  | own y => obtain ⟨ob, e⟩ := x; exact ⟨ob, k _ _ (.inl rfl) e⟩
  | xd fs => obtain ⟨mA, ⟨od, es, ep, e, c⟩, r⟩ := x; exact ⟨mA, ⟨od, es, ep, k _ _ (.inl rfl) e, c⟩, r⟩
  | rng lo hi => obtain ⟨t, u, v, e⟩ := x; exact ⟨t, u, v, k _ _ (.inl rfl) e⟩
  | frz ob u ih => obtain ⟨e, q⟩ := x; exact ⟨k _ _ (.inl rfl) e, ih q⟩
  | tbl ps =>
    have e : h.get? a = some { cls := .none, data := .fields ps } := x
    show h'.get? a = some { cls := .none, data := .fields ps }
    exact k a _ (.inl rfl) e
  | met f y =>
    have e : h.get? a = some (PySem.W.methodObj (.ref f) (.ref y)) := x
    show h'.get? a = some (PySem.W.methodObj (.ref f) (.ref y))
    exact k a _ (.inl rfl) e
  | ext φ => obtain ⟨p, ⟨o, e⟩, st⟩ := x; exact ⟨st _ _ p fun o q => k _ _ (.inl rfl) q, ⟨o, k _ _ (.inl rfl) e⟩, st⟩
theorem HOk.lt (x : HOk P w H h) (e : H a = some o) : a < h.objs.size := (x a o e).lt
theorem HOk.fresh (x : HOk P w H h) (e : h.objs.size ≤ a) : H a = none := by
  cases q : H a with
  | none => rfl
  | some u => exact absurd (Nat.lt_of_lt_of_le (x.lt q) e) (Nat.lt_irrefl _)
theorem HOk.kept (x : HOk P w H h) (k : ∀ b u, h.get? b = some u → h'.get? b = some u) : HOk P w H h' := fun a o e =>
  (x a o e).stay (fun b u _ q => k b u q) (fun _ q => q) fun _ _ q => q
theorem HOk.laid (x : HOk P w H h) (k : ∀ b u, h.get? b = some u → h'.get? b = some u) (hp : h.objs.size ≤ a) (new : ObjOk P w (upd H a o) h' a o) : HOk P w (upd H a o) h' := fun b u e => by
  have hn := x.fresh hp
  by_cases hb : b = a
  · subst hb; rw [upd_same] at e; cases e; exact new
  · rw [upd_ne hb] at e
    exact (x b u e).stay (fun c v _ q => k c v q) (fun c q => by rw [upd_ne (ne_of_none q hn)]; exact q) fun c xs q => by rw [upd_ne (ne_of_none q hn)]; exact q
end
def Rd (H : Hp) (a : Addr) (u : HO) : Prop := H a = some u ∨ ∃ o, H a = some (.frz o u)
theorem Rd.ok {P : Program} {w : World} {H : Hp} {h : Heap} {a : Addr} {u : HO} (r : Rd H a u) (x : HOk P w H h) : ObjOk P w H h a u := by
  rcases r with r | ⟨o, r⟩
  · exact x a u r
  · obtain ⟨_, q⟩ := x a _ r
    exact q
def Mut : Option HO → Prop
  | some (.lst _) => True
  | some (.dK _) => True
  | some (.dT _) => True
  | some (.set _ _) => True
  | some (.ins _ _ _) => True
  | some (.ext _) => True
  | _ => False
section
variable {P : Program} {w : World} {H : Hp} {h h' : Heap} {x e : Addr} {o' : HO}
theorem HOk.write (ok : HOk P w H h) (mu : Mut (H x)) (he : e = x ∨ H e = some (.own x)) (k : ∀ b u, b ≠ e → h.get? b = some u → h'.get? b = some u) (heo : ∃ u, h'.get? e = some u)
    (new : ObjOk P w (upd H x o') h' x o') : HOk P w (upd H x o') h' := fun b u q => by
  have nown : ∀ c y, H c = some (.own y) → c ≠ x := fun c y r z => by subst z; rw [r] at mu; exact mu
  have ntup : ∀ c xs, H c = some (.tup xs) → c ≠ x := fun c xs r z => by subst z; rw [r] at mu; exact mu
  by_cases hb : b = x
  · subst hb; rw [upd_same] at q; cases q; exact new
  · rw [upd_ne hb] at q
    by_cases hbe : b = e
    · have q' : H b = some (.own x) := by
        rcases he with z | z
        · exact absurd (hbe.trans z) hb
        · rw [hbe]; exact z
      rw [q] at q'; cases q'
      obtain ⟨v, hv⟩ := heo
      exact ⟨v, by rw [hbe]; exact hv⟩
    · refine (ok b u q).stay (fun c v hc r => k c v ?_ r) (fun c r => by rw [upd_ne (nown c b r)]; exact r) fun c xs r => by rw [upd_ne (ntup c xs r)]; exact r
      rcases hc with rfl | hc
      · exact hbe
      · rintro rfl
        rcases he with z | z
        · exact nown c b hc z
        · rw [hc] at z; cases z; exact hb rfl
end
structure Un (fs ex : List Addr) (H H' : Hp) (h h' : Heap) : Prop where
  keep : ∀ b o, h.get? b = some o → H b = none → b ∉ fs → b ∉ ex → h'.get? b = some o
  slot : ∀ b o, h.get? b = some o → H b = none → b ∈ fs → b ∉ ex → ∃ sl, h'.get? b = some { o with slots := sl }
  free : ∀ b o, h.get? b = some o → H b = none → b ∉ ex → H' b = none
  there : ∀ b o, h.get? b = some o → b ∉ ex → ∃ o', h'.get? b = some o'
  tups : ∀ b xs, H b = some (.tup xs) → H' b = some (.tup xs)
  frzs : ∀ b o u, H b = some (.frz o u) → H' b = some (.frz o u)
  tbls : ∀ b ps, H b = some (.tbl ps) → ∃ more, H' b = some (.tbl (ps ++ more))
section
variable {fs fs' ex ex' : List Addr} {H H1 H2 : Hp} {h h1 h2 h' : Heap} {a x e : Addr} {o : HO}
theorem Un.any (u : Un fs ex H H1 h h1) {b : Addr} {ob : Obj} (q : h.get? b = some ob) (n : H b = none) (hx : b ∉ ex) : ∃ sl, h1.get? b = some { ob with slots := sl } := by
  by_cases hb : b ∈ fs
  · exact u.slot b ob q n hb hx
  · exact ⟨ob.slots, u.keep b ob q n hb hx⟩
theorem Un.kept (k : ∀ b u, h.get? b = some u → h'.get? b = some u) : Un fs ex H H h h' :=
  ⟨fun b ob q _ _ _ => k b ob q, fun b ob q _ _ _ => ⟨ob.slots, k b ob q⟩, fun _ _ _ n _ => n, fun b ob q _ => ⟨ob, k b ob q⟩, fun _ _ q => q, fun _ _ _ q => q, fun _ ps q => ⟨#[], by rw [q]; simp⟩⟩
theorem Un.refl : Un fs ex H H h h := Un.kept fun _ _ q => q
theorem Un.laid (k : ∀ b u, h.get? b = some u → h'.get? b = some u) (hp : h.objs.size ≤ a) (hn : H a = none) : Un fs ex H (upd H a o) h h' where
  keep := fun b u q _ _ _ => k b u q
  slot := fun b u q _ _ _ => ⟨u.slots, k b u q⟩
  free := fun b u q n _ => by rw [upd_ne (Nat.ne_of_lt (Nat.lt_of_lt_of_le (Heap.lt_size q) hp))]; exact n
  there := fun b u q _ => ⟨u, k b u q⟩
  tups := fun b xs q => by rw [upd_ne (ne_of_none q hn)]; exact q
  frzs := fun b u xs q => by rw [upd_ne (ne_of_none q hn)]; exact q
  tbls := fun b ps q => ⟨#[], by rw [upd_ne (ne_of_none q hn), q]; simp⟩
theorem Un.write (mu : Mut (H x)) (he : e = x ∨ H e = some (.own x)) (k : ∀ b u, b ≠ e → h.get? b = some u → h'.get? b = some u) (heo : ∃ u, h'.get? e = some u) : Un fs ex H (upd H x o) h h' := by
  have hx : ∀ b, H b = none → b ≠ x := fun b n z => by subst z; rw [n] at mu; exact mu
  have hb : ∀ b, H b = none → b ≠ e := fun b n z => by
    subst z
    rcases he with r | r
    · exact hx b n r
    · rw [n] at r; cases r
  have hm : ∀ b u, H b = some u → ¬ Mut (some u) → b ≠ x := fun b u q nm z => by subst z; rw [q] at mu; exact nm mu
  refine ⟨fun b u q n _ _ => k b u (hb b n) q, fun b u q n _ _ => ⟨u.slots, k b u (hb b n) q⟩, fun b u q n _ => by rw [upd_ne (hx b n)]; exact n, fun b u q _ => ?_,
    fun b xs q => by rw [upd_ne (hm b _ q fun z => z)]; exact q, fun b u xs q => by rw [upd_ne (hm b _ q fun z => z)]; exact q, fun b ps q => ⟨#[], by rw [upd_ne (hm b _ q fun z => z), q]; simp⟩⟩
  by_cases hbe : b = e
  · subst hbe; exact heo
  · exact ⟨u, k b u hbe q⟩
end
def trk (h : Heap) (H : Hp) : List Addr := (List.range h.objs.size).filter fun a => (H a).isSome
def hidT (h : Heap) (H : Hp) : Heap := PySem.W.hideAll h (trk h H)
theorem hidT_size (h : Heap) (H : Hp) : (hidT h H).objs.size = h.objs.size := PySem.W.hideAll_size _ _
theorem hidT_get {h : Heap} {H : Hp} {b : Addr} {o : Obj} (e : h.get? b = some o) (n : H b = none) : (hidT h H).get? b = some o :=
  PySem.W.hideAll_get _ e fun hm => by
    have q : (H b).isSome = true := (List.mem_filter.mp hm).2
    rw [n] at q; simp at q
theorem of_hidT {h : Heap} {H : Hp} {b : Addr} {o : Obj} (e : (hidT h H).get? b = some o) : h.get? b = some o ∧ H b = none := by
  have e' : h.get? b = some o := PySem.W.of_hideAll (trk h H) e
  refine ⟨e', ?_⟩
  cases q : H b with
  | none => rfl
  | some x =>
    have hm : b ∈ trk h H := List.mem_filter.mpr ⟨List.mem_range.mpr (Heap.lt_size e'), by simp [q]⟩
    have z : (hidT h H).get? b = none := PySem.W.hideAll_none (trk h H) hm
    rw [z] at e; cases e
def allNews (g h : Heap) (L : Addr) : List (Addr × Obj) := (List.range h.objs.size).filterMap fun a => if a = L ∨ (g.get? a).isSome = true then none else (h.get? a).map fun o => (a, o)
theorem mem_allNews {g h : Heap} {L a : Addr} {o : Obj} (h1 : a ≠ L) (h2 : g.get? a = none) (h3 : h.get? a = some o) : (a, o) ∈ allNews g h L :=
  List.mem_filterMap.mpr ⟨a, List.mem_range.mpr (Heap.lt_size h3), by simp [h1, h2, h3]⟩
theorem of_mem_allNews {g h : Heap} {L : Addr} {p : Addr × Obj} (hp : p ∈ allNews g h L) : p.1 ≠ L ∧ g.get? p.1 = none ∧ h.get? p.1 = some p.2 := by
  obtain ⟨b, _, e⟩ := List.mem_filterMap.mp hp
  split at e
  · cases e
  · rename_i hn
    cases q : h.get? b with
    | none => rw [q] at e; simp at e
    | some u =>
      rw [q] at e
      simp only [Option.map_some, Option.some.injEq] at e
      subst e
      refine ⟨fun z => hn (.inl z), ?_, q⟩
      show g.get? b = none
      cases r : g.get? b with
      | none => rfl
      | some v => exact (hn (.inr (by simp [r]))).elim
def rest (g h : Heap) (L d : Addr) : List (Addr × Obj) := (allNews g h L).filter fun p => decide (p.1 ≠ d)
theorem news_all {g h : Heap} {L : Addr} : News g L h (allNews g h L) := fun p hp => let ⟨a, b, c⟩ := of_mem_allNews hp; ⟨c, a, b⟩
end L2
namespace L2
open PySem PySem.Spec PyProof.Rows
structure Mod (K : PySem.W.Frag) (mg : Str → Option Value) (base : Heap) : Prop where
  kin : K.In base
  glob : base.Ns mainGlobals mg
  blt : ∃ mb, base.Ns builtinsNs mb ∧ ∀ x : Str, x ≠ "__name__" → mb x = bootBuiltins x
  nolimit : base.NoLimit
structure Cx where
  prog : Program
  w : World
  K : PySem.W.Frag
  mg : Str → Option Value
  base : Heap
  A : Around
  N : List Str
  s₀ : Shared
  H₀ : Hp
  env : Env
  outer : List Env
  stack : List Env
  ex : List Addr
  fn : Str → Bool
  calm : Bool
  pn : List (Addr × Obj)
  xe : Value → Shared → Prop
def frs (l : List Env) : List Addr := l.filterMap (·.frame)
abbrev Cx.fs (X : Cx) : List Addr := frs X.outer
def Vis (sc : Scope) (x : Str) : Prop := sc.names.lookup x = some .local ∨ sc.names.lookup x = some .cell ∨ sc.names.lookup x = some .free
def Loc (sc : Scope) (x : Str) : Prop := sc.names.lookup x = some .local ∨ sc.names.lookup x = some .cell
def Look (env : Env) (h : Heap) (m : Str → Option Value) (x : Str) (u : Value) : Prop :=
  (env.kindOf x = some .local ∧ m x = some u) ∨ ((env.kindOf x = some .cell ∨ env.kindOf x = some .free) ∧ ∃ c, env.cells.lookup x = some c ∧ h.IsCell c (some u))
structure Cx.Ok (X : Cx) : Prop where
  mod : Mod X.K X.mg X.base
  kind : X.env.scope.kind = .function
  glob : X.env.globals = mainGlobals
  blt : X.env.builtins = builtinsNs
  above : X.s₀.heap.objs.size ≤ X.env.locals
  inj : ∀ x y c, X.env.cells.lookup x = some c → X.env.cells.lookup y = some c → x = y
  has : ∀ x, (X.env.kindOf x = some .cell ∨ X.env.kindOf x = some .free) → ∃ c, X.env.cells.lookup x = some c
  cab : ∀ x c, X.fn x = true → X.env.cells.lookup x = some c → X.s₀.heap.objs.size ≤ c
  hd : X.calm = true → X.A.handled = none
  frames : X.A.frames = some X.stack
  stk : X.stack = X.outer ∨ (X.stack = X.env :: X.outer ∧ X.env.frame = some X.env.locals)
  exf : ∀ b ∈ X.ex, b ≠ X.env.locals ∧ ∀ x c, X.env.cells.lookup x = some c → c ≠ b
  bs : ∀ b o, X.base.get? b = some o → X.s₀.heap.get? b = some o ∧ X.H₀ b = none
  bsz : X.base.objs.size ≤ X.s₀.heap.objs.size
  noex : ∀ b o, X.base.get? b = some o → b ∉ X.ex
  exfs : ∀ b ∈ X.ex, b ∉ X.fs
  funs : X.s₀.heap.FunFrames X.base X.outer
  frf : ∀ b ∈ X.fs, X.H₀ b = none
structure Inv (X : Cx) (pins : List (Addr × Obj)) (σ : List (Option V)) (H : Hp) (s : Shared) : Prop where
  ok : X.Ok
  os : s.os = X.s₀.os
  bare : AllBare s.gens
  base : Un X.fs X.ex X.H₀ H X.s₀.heap s.heap
  loc : ∃ m, s.heap.Ns X.env.locals m ∧ ∀ (i : Nat) (x : Str) (v : V), X.N[i]? = some x → σ[i]? = some (some v) → Vis X.env.scope x → ∃ u, RelV v u ∧ Look X.env s.heap m x u
  cell : ∀ x c, X.env.cells.lookup x = some c → ∃ v, s.heap.IsCell c v
  free : H X.env.locals = none
  freeC : ∀ x c, X.env.cells.lookup x = some c → H c = none
  pin : ∀ p ∈ X.pn ++ pins, s.heap.get? p.1 = some p.2 ∧ H p.1 = none ∧ p.1 ≠ X.env.locals ∧ p.1 ∉ X.fs ∧ ∀ v, p.2.data ≠ .cell v
  hok : HOk X.prog X.w H s.heap
  len : σ.length = X.N.length
section
variable {X : Cx} {pins : List (Addr × Obj)} {σ : List (Option V)} {H H' : Hp} {s : Shared} {h' : Heap}
theorem Cx.Ok.nofr (ok : X.Ok) {b : Addr} {o : Obj} (e : X.base.get? b = some o) : b ∉ X.fs := fun hb => by
  have := (ok.funs.mem hb).1
  rw [e] at this; cases this
theorem Inv.bs (I : Inv X pins σ H s) : ∀ b o, X.base.get? b = some o → s.heap.get? b = some o ∧ H b = none := fun b o e =>
  ⟨I.base.keep b o (I.ok.bs b o e).1 (I.ok.bs b o e).2 (I.ok.nofr e) (I.ok.noex b o e), I.base.free b o (I.ok.bs b o e).1 (I.ok.bs b o e).2 (I.ok.noex b o e)⟩
theorem Inv.bk (I : Inv X pins σ H s) : ∀ b o, X.base.get? b = some o → s.heap.get? b = some o := fun b o e => (I.bs b o e).1
theorem Inv.mod (I : Inv X pins σ H s) : Mod X.K X.mg X.base := I.ok.mod
theorem Inv.kIn (I : Inv X pins σ H s) : X.K.In s.heap := I.ok.mod.kin.keeps I.bk
theorem Inv.fr (I : Inv X pins σ H s) : ∃ m, Fr X.base X.env.locals s.heap m :=
  let ⟨m, hn, _⟩ := I.loc
  ⟨m, hn, I.bk, Nat.le_trans I.ok.bsz I.ok.above⟩
theorem Inv.lt (I : Inv X pins σ H s) : X.env.locals < s.heap.objs.size := let ⟨_, hn, _⟩ := I.loc; hn.lt
theorem Inv.sz (I : Inv X pins σ H s) : X.s₀.heap.objs.size ≤ s.heap.objs.size := Nat.le_trans I.ok.above (Nat.le_of_lt I.lt)
theorem Inv.nofs (I : Inv X pins σ H s) {a : Addr} (h : s.heap.objs.size ≤ a) : a ∉ X.fs := fun hb => by
  obtain ⟨_, o, ho, _⟩ := I.ok.funs.mem hb
  exact absurd (Nat.lt_of_lt_of_le (Heap.lt_size ho) (Nat.le_trans I.sz h)) (Nat.lt_irrefl _)
theorem Inv.cne (I : Inv X pins σ H s) : ∀ x c, X.env.cells.lookup x = some c → c ≠ X.env.locals := fun x c e z => by
  obtain ⟨v, o, ho, hd⟩ := I.cell x c e
  obtain ⟨m, ⟨o', es, ep, ho', hd', _⟩, _⟩ := I.loc
  rw [z, ho'] at ho; cases ho; rw [hd'] at hd; cases hd
theorem Inv.funs (I : Inv X pins σ H s) : s.heap.FunFrames X.base X.outer := by
  have all : ∀ (l : List Env), (∀ b ∈ frs l, b ∈ X.fs) → X.s₀.heap.FunFrames X.base l → s.heap.FunFrames X.base l := by
    intro l
    induction l with
    | nil => intro _ _; trivial
    | cons env r ih =>
      intro hs hl
      obtain ⟨hk, ⟨L, o, hf, hn, ho, hd⟩, hr⟩ := hl
      have hL : L ∈ X.fs := hs L (by unfold frs; rw [List.filterMap_cons, hf]; exact List.mem_cons_self)
      obtain ⟨sl, e⟩ := I.base.slot L o ho (I.ok.frf L hL) hL fun z => I.ok.exfs L z hL
      exact ⟨hk, ⟨L, _, hf, hn, e, hd⟩, ih (fun b hb => hs b (by unfold frs; rw [List.filterMap_cons, hf]; exact List.mem_cons_of_mem _ hb)) hr⟩
  exact all X.outer (fun _ hb => hb) I.ok.funs
theorem Inv.stack (I : Inv X pins σ H s) : s.heap.FunFrames X.base X.stack := by
  rcases I.ok.stk with e | ⟨e, hf⟩
  · rw [e]; exact I.funs
  · rw [e]
    obtain ⟨m, hn, _⟩ := I.loc
    refine .cons (by rw [I.ok.kind]; decide) hf hn ?_ I.funs
    exact Heap.get?_none_of_le (Nat.le_trans I.ok.bsz I.ok.above)
theorem Inv.stkSub (I : Inv X pins σ H s) : ∀ b ∈ frs X.stack, b ∈ X.env.locals :: X.fs := fun b hb => by
  rcases I.ok.stk with e | ⟨e, hf⟩
  · rw [e] at hb; exact List.mem_cons_of_mem _ hb
  · rw [e] at hb
    unfold frs at hb
    rw [List.filterMap_cons, hf] at hb
    exact hb
theorem Inv.stkFree (I : Inv X pins σ H s) : ∀ b ∈ frs X.stack, H b = none := fun b hb => by
  rcases List.mem_cons.mp (I.stkSub b hb) with e | hb
  · rw [e]; exact I.free
  · obtain ⟨_, o, ho, _⟩ := I.ok.funs.mem hb
    exact I.base.free b o ho (I.ok.frf b hb) fun z => I.ok.exfs b z hb
theorem Inv.step {g' : Array GenState} {t' : Nat} {d' : Drawn} {ch : List Addr} (I : Inv X pins σ H s)
    (hch : ∀ b ∈ ch, (b ∈ X.ex ∨ X.s₀.heap.objs.size ≤ b) ∧ b ≠ X.env.locals ∧ (∀ x c, X.env.cells.lookup x = some c → c ≠ b) ∧ ∀ p ∈ X.pn ++ pins, p.1 ≠ b)
    (keep : ∀ b o, b ≠ X.env.locals → b ∉ X.fs → b ∉ ch → s.heap.get? b = some o → H b = none → h'.get? b = some o)
    (slot : ∀ b o, b ≠ X.env.locals → b ∈ X.fs → b ∉ ch → s.heap.get? b = some o → H b = none → ∃ sl, h'.get? b = some { o with slots := sl }) (free : ∀ b o, b ∉ ch → s.heap.get? b = some o → H b = none → H' b = none)
    (there : ∀ b o, b ∉ ch → s.heap.get? b = some o → ∃ o', h'.get? b = some o')
    (tups : ∀ b xs, H b = some (.tup xs) → H' b = some (.tup xs)) (frzs : ∀ b o u, H b = some (.frz o u) → H' b = some (.frz o u)) (tbls : ∀ b ps, H b = some (.tbl ps) → ∃ more, H' b = some (.tbl (ps ++ more)))
    (ns : ∀ m, s.heap.Ns X.env.locals m → h'.Ns X.env.locals m) (hok : HOk X.prog X.w H' h') (hg : AllBare g') :
    Inv X pins σ H' { s with heap := h', gens := g', drawn := d', toks := t' } := by
  have neL : ∀ b o, X.s₀.heap.get? b = some o → b ≠ X.env.locals := fun b o e => Nat.ne_of_lt (Nat.lt_of_lt_of_le (Heap.lt_size e) I.ok.above)
  have neC : ∀ b o, X.s₀.heap.get? b = some o → b ∉ X.ex → b ∉ ch := fun b o e hx hb => by
    rcases (hch b hb).1 with z | z
    · exact hx z
    · exact absurd (Nat.lt_of_lt_of_le (Heap.lt_size e) z) (Nat.lt_irrefl _)
  have cellK : ∀ x c, X.env.cells.lookup x = some c → ∀ v, s.heap.IsCell c v → h'.IsCell c v := fun x c e v ⟨o, ho, hd⟩ => by
    have nch : c ∉ ch := fun z => (hch c z).2.2.1 x c e rfl
    by_cases hc : c ∈ X.fs
    · obtain ⟨sl, q⟩ := slot c o (I.cne x c e) hc nch ho (I.freeC x c e)
      exact ⟨_, q, hd⟩
    · exact ⟨o, keep c o (I.cne x c e) hc nch ho (I.freeC x c e), hd⟩
  refine ⟨I.ok, I.os, hg, ⟨fun b o e n hb hx => ?_, fun b o e n hb hx => ?_, fun b o e n hx => ?_, fun b o e hx => ?_, fun b xs e => tups b xs (I.base.tups b xs e), fun b o xs e => frzs b o xs (I.base.frzs b o xs e), fun b ps e => ?_⟩, ?_, fun x c e => ?_, ?_, fun x c e => ?_, fun p hp => ?_, hok, I.len⟩
  · exact keep b o (neL b o e) hb (neC b o e hx) (I.base.keep b o e n hb hx) (I.base.free b o e n hx)
  · obtain ⟨sl, e1⟩ := I.base.slot b o e n hb hx
    obtain ⟨sl', e2⟩ := slot b _ (neL b o e) hb (neC b o e hx) e1 (I.base.free b o e n hx)
    exact ⟨sl', e2⟩
  · obtain ⟨o', e1⟩ := I.base.there b o e hx
    exact free b o' (neC b o e hx) e1 (I.base.free b o e n hx)
  · obtain ⟨o', e1⟩ := I.base.there b o e hx
    exact there b o' (neC b o e hx) e1
  · obtain ⟨m1, e1⟩ := I.base.tbls b ps e
    obtain ⟨m2, e2⟩ := tbls b _ e1
    exact ⟨m1 ++ m2, by rw [e2, Array.append_assoc]⟩
  · obtain ⟨m, hn, hl⟩ := I.loc
    refine ⟨m, ns m hn, fun i x v e1 e2 e3 => ?_⟩
    obtain ⟨u, r, l⟩ := hl i x v e1 e2 e3
    refine ⟨u, r, ?_⟩
    rcases l with l | ⟨k, c, e, z⟩
    · exact .inl l
    · exact .inr ⟨k, c, e, cellK x c e _ z⟩
  · obtain ⟨v, z⟩ := I.cell x c e
    exact ⟨v, cellK x c e v z⟩
  · obtain ⟨m, ⟨o, _, _, ho, _⟩, _⟩ := I.loc
    exact free _ o (fun z => (hch _ z).2.1 rfl) ho I.free
  · obtain ⟨v, o, ho, hd⟩ := I.cell x c e
    exact free c o (fun z => (hch c z).2.2.1 x c e rfl) ho (I.freeC x c e)
  · obtain ⟨e, n, ne, nf, d⟩ := I.pin p hp
    have nch : p.1 ∉ ch := fun z => (hch p.1 z).2.2.2 p hp rfl
    exact ⟨keep p.1 p.2 ne nf nch e n, free p.1 p.2 nch e n, ne, nf, d⟩
theorem Inv.un {t' : Nat} (I : Inv X pins σ H s) (u : Un X.fs [] H H' s.heap h') (hok : HOk X.prog X.w H' h') : Inv X pins σ H' { s with heap := h', toks := t' } := by
  obtain ⟨m, ⟨o, es, ep, ho, r⟩, _⟩ := id I.loc
  obtain ⟨sl, hL⟩ := u.any ho I.free (by simp)
  exact I.step (g' := s.gens) (d' := s.drawn) (ch := []) (fun _ z => nomatch z) (fun b o _ hb _ e n => u.keep b o e n hb (by simp)) (fun b o _ hb _ e n => u.slot b o e n hb (by simp)) (fun b o _ e n => u.free b o e n (by simp)) (fun b o _ e => u.there b o e (by simp)) u.tups u.frzs u.tbls (fun m' hm => by
    obtain ⟨o', es', ep', ho', r'⟩ := hm
    rw [ho] at ho'; cases ho'
    exact ⟨_, es', ep', hL, r'⟩) hok I.bare
theorem Inv.call {g' : Array GenState} {t' : Nat} {d' : Drawn} {ch : List Addr} (I : Inv X pins σ H s) (u : Un (frs X.stack) ch H H' s.heap h') (hok : HOk X.prog X.w H' h') (hg : AllBare g')
    (hch : ∀ b ∈ ch, (b ∈ X.ex ∨ X.s₀.heap.objs.size ≤ b) ∧ b ≠ X.env.locals ∧ (∀ x c, X.env.cells.lookup x = some c → c ≠ b) ∧ ∀ p ∈ X.pn ++ pins, p.1 ≠ b) :
    Inv X pins σ H' { s with heap := h', gens := g', drawn := d', toks := t' } := by
  obtain ⟨m, ⟨o, es, ep, ho, r⟩, _⟩ := id I.loc
  obtain ⟨sl, hL⟩ := u.any ho I.free fun z => (hch _ z).2.1 rfl
  exact I.step (ch := ch) hch (fun b o hL hb hc e n => u.keep b o e n (fun z => (List.mem_cons.mp (I.stkSub b z)).elim hL hb) hc) (fun b o _ _ hc e n => u.any e n hc) (fun b o hc e n => u.free b o e n hc) (fun b o hc e => u.there b o e hc) u.tups u.frzs u.tbls (fun m' hm => by
    obtain ⟨o', es', ep', ho', r'⟩ := hm
    rw [ho] at ho'; cases ho'
    exact ⟨_, es', ep', hL, r'⟩) hok hg
theorem Inv.turned {t' : Nat} {it : Addr} (I : Inv X pins σ H s) (k : ∀ b o, b ≠ it → s.heap.get? b = some o → h'.get? b = some o) (hn : H it = none) (hL : it ≠ X.env.locals)
    (h1 : it ∈ X.ex ∨ X.s₀.heap.objs.size ≤ it) (h2 : ∀ x c, X.env.cells.lookup x = some c → c ≠ it) (h3 : ∀ p ∈ X.pn ++ pins, p.1 ≠ it) : Inv X pins σ H { s with heap := h', toks := t' } := by
  have nit : ∀ b u, H b = some u → b ≠ it := fun b u e z => by rw [z, hn] at e; cases e
  refine I.step (g' := s.gens) (d' := s.drawn) (ch := [it]) (fun b hb => ?_) (fun b o _ _ hc e _ => k b o (fun z => hc (by simp [z])) e) (fun b o _ _ hc e _ => ⟨o.slots, k b o (fun z => hc (by simp [z])) e⟩) (fun _ _ _ _ n => n)
    (fun b o hc e => ⟨o, k b o (fun z => hc (by simp [z])) e⟩) (fun _ _ e => e) (fun _ _ _ e => e) (fun b ps e => ⟨#[], by rw [e]; simp⟩) (fun m hm => ?_) (fun b u e => ?_) I.bare
  · have e : b = it := by simpa using hb
    subst e
    exact ⟨h1, hL, h2, h3⟩
  · obtain ⟨o, es, ep, ho, r⟩ := hm
    exact ⟨o, es, ep, k _ o (Ne.symm hL) ho, r⟩
  · refine (I.hok b u e).stay (fun c v hc q => k c v ?_ q) (fun _ q => q) fun _ _ q => q
    rcases hc with z | z
    · rw [z]; exact nit b u e
    · exact nit c _ z
theorem Inv.tok (I : Inv X pins σ H s) (t : Nat) : Inv X pins σ H { s with toks := t } := I.un (h' := s.heap) (t' := t) Un.refl I.hok
theorem Inv.kept {t' : Nat} (I : Inv X pins σ H s) (k : ∀ b u, s.heap.get? b = some u → h'.get? b = some u) : Inv X pins σ H { s with heap := h', toks := t' } := I.un (Un.kept k) (I.hok.kept k)
theorem Inv.laid {a : Addr} {o : HO} {t' : Nat} (I : Inv X pins σ H s) (k : ∀ b u, s.heap.get? b = some u → h'.get? b = some u) (hp : s.heap.objs.size ≤ a) (new : ObjOk X.prog X.w (upd H a o) h' a o) :
    Inv X pins σ (upd H a o) { s with heap := h', toks := t' } := I.un (Un.laid k hp (I.hok.fresh hp)) (I.hok.laid k hp new)
theorem Inv.write {x e : Addr} {o : HO} {t' : Nat} (I : Inv X pins σ H s) (mu : Mut (H x)) (he : e = x ∨ H e = some (.own x)) (k : ∀ b u, b ≠ e → s.heap.get? b = some u → h'.get? b = some u) (heo : ∃ u, h'.get? e = some u)
    (new : ObjOk X.prog X.w (upd H x o) h' x o) : Inv X pins σ (upd H x o) { s with heap := h', toks := t' } := I.un (Un.write mu he k heo) (I.hok.write mu he k heo new)
theorem Inv.pins_of {pins' : List (Addr × Obj)} (I : Inv X pins σ H s) (h : ∀ p ∈ pins', s.heap.get? p.1 = some p.2 ∧ H p.1 = none ∧ p.1 ≠ X.env.locals ∧ p.1 ∉ X.fs ∧ ∀ v, p.2.data ≠ .cell v) : Inv X pins' σ H s :=
  ⟨I.ok, I.os, I.bare, I.base, I.loc, I.cell, I.free, I.freeC, fun p hp => (List.mem_append.mp hp).elim (fun z => I.pin p (List.mem_append_left _ z)) (h p), I.hok, I.len⟩
theorem nodup_ix {N : List Str} (hN : N.Nodup) {i j : Nat} {x : Str} (a : N[i]? = some x) (b : N[j]? = some x) : i = j := by
  obtain ⟨h1, e1⟩ := List.getElem?_eq_some_iff.mp a
  obtain ⟨h2, e2⟩ := List.getElem?_eq_some_iff.mp b
  exact (List.getElem_inj hN).mp (e1.trans e2.symm)
theorem store_ok2 {M : Model} {A : Around} {E : Value → Shared → Prop} {i : Nat} {x : Str} {v : V} {u : Value} {Q : Unit → Shared → Prop} (I : Inv X pins σ H s) (hN : X.N.Nodup) (hi : X.N[i]? = some x) (hx : Loc X.env.scope x) (r : RelV v u)
    (h : ∀ s', Inv X pins (σ.set i (some v)) H s' → (∃ a, Heap.SameBut a s.heap s'.heap ∧ (a = X.env.locals ∨ X.env.cells.lookup x = some a)) → Q () s') (hf : X.fn x = true ∨ X.env.scope.names.lookup x = some .local := by first | exact .inl rfl | exact .inr rfl | assumption) : wpAny M A (storeName X.env x u) Q E s := by
  obtain ⟨m, hn, hl⟩ := id I.loc
  have hcls : (X.env.scope.kind == .class || (X.env.scope.kind == .module && X.env.locals != X.env.globals)) = false := by rw [I.ok.kind]; rfl
  have hiσ : i < σ.length := by rw [I.len]; exact (List.getElem?_eq_some_iff.mp hi).1
  have cne := I.cne
  have tracked : ∀ {a : Addr} {h' : Heap}, (∃ o, s.heap.get? a = some o ∧ H a = none) → Heap.SameBut a s.heap h' → HOk X.prog X.w H h' := fun {a h'} ha hs b ob e => by
    obtain ⟨_, _, hfree⟩ := ha
    refine (I.hok b ob e).stay (fun c w' hc q => (hs.2 c ?_).trans q) (fun _ q => q) fun _ _ q => q
    rintro rfl
    rcases hc with rfl | hc
    · rw [hfree] at e; cases e
    · rw [hfree] at hc; cases hc
  rcases hx with hk | hk
  · refine wpAny_storeName_local hk hn (fun h' hn' hs => ?_) hcls
    obtain ⟨oL, _, _, hoL, _⟩ := id hn
    refine h _ ⟨I.ok, I.os, I.bare, ⟨fun b o e n hb hx => ?_, fun b o e n hb hx => ?_, I.base.free, fun b o e hx => ?_, I.base.tups, I.base.frzs, I.base.tbls⟩, ⟨_, hn', fun j y v' e1 e2 e3 => ?_⟩, fun y c e => ?_, I.free, I.freeC, fun p hp => ?_, tracked ⟨oL, hoL, I.free⟩ hs, by simpa using I.len⟩ ⟨_, hs, .inl rfl⟩
    · exact (hs.2 b (Nat.ne_of_lt (Nat.lt_of_lt_of_le (Heap.lt_size e) I.ok.above))).trans (I.base.keep b o e n hb hx)
    · obtain ⟨sl, e1⟩ := I.base.slot b o e n hb hx
      exact ⟨sl, (hs.2 b (Nat.ne_of_lt (Nat.lt_of_lt_of_le (Heap.lt_size e) I.ok.above))).trans e1⟩
    · obtain ⟨o', e1⟩ := I.base.there b o e hx
      exact ⟨o', (hs.2 b (Nat.ne_of_lt (Nat.lt_of_lt_of_le (Heap.lt_size e) I.ok.above))).trans e1⟩
    · by_cases hj : j = i
      · subst hj
        rw [hi] at e1; cases e1
        rw [List.getElem?_set_self hiσ] at e2
        cases e2
        exact ⟨u, r, .inl ⟨hk, by simp⟩⟩
      · rw [List.getElem?_set_ne (Ne.symm hj)] at e2
        obtain ⟨u', r', q⟩ := hl j y v' e1 e2 e3
        refine ⟨u', r', ?_⟩
        rcases q with ⟨k, e⟩ | ⟨k, c, e, z⟩
        · refine .inl ⟨k, ?_⟩
          have : y ≠ x := fun e => hj (nodup_ix hN e1 (e ▸ hi))
          simp [this, e]
        · exact .inr ⟨k, c, e, z.sameBut hs (cne y c e)⟩
    · obtain ⟨w', z⟩ := I.cell y c e
      exact ⟨w', z.sameBut hs (cne y c e)⟩
    · obtain ⟨e, n, ne, nf, d⟩ := I.pin p hp
      exact ⟨(hs.2 p.1 ne).trans e, n, ne, nf, d⟩
  · have hfn : X.fn x = true := by
      rcases hf with z | z
      · exact z
      · rw [z] at hk; cases hk
    obtain ⟨c, hc⟩ := I.ok.has x (.inl hk)
    obtain ⟨w', z⟩ := I.cell x c hc
    refine wpAny_storeName_cell I.ok.kind hk hc z (fun h' hc' hs => ?_)
    obtain ⟨oc, hoc, hocd⟩ := id z
    refine h { s with heap := h' } ⟨I.ok, I.os, I.bare, ⟨fun b o e n hb hx => ?_, fun b o e n hb hx => ?_, I.base.free, fun b o e hx => ?_, I.base.tups, I.base.frzs, I.base.tbls⟩, ⟨m, hn.sameBut hs (Ne.symm (cne x c hc)), fun j y v' e1 e2 e3 => ?_⟩, fun y c' e => ?_, I.free, I.freeC, fun p hp => ?_, tracked ⟨oc, hoc, I.freeC x c hc⟩ hs, by simpa using I.len⟩ ⟨c, hs, .inr hc⟩
    · exact (hs.2 b (Nat.ne_of_lt (Nat.lt_of_lt_of_le (Heap.lt_size e) (I.ok.cab x c hfn hc)))).trans (I.base.keep b o e n hb hx)
    · obtain ⟨sl, e1⟩ := I.base.slot b o e n hb hx
      exact ⟨sl, (hs.2 b (Nat.ne_of_lt (Nat.lt_of_lt_of_le (Heap.lt_size e) (I.ok.cab x c hfn hc)))).trans e1⟩
    · obtain ⟨o', e1⟩ := I.base.there b o e hx
      exact ⟨o', (hs.2 b (Nat.ne_of_lt (Nat.lt_of_lt_of_le (Heap.lt_size e) (I.ok.cab x c hfn hc)))).trans e1⟩
    · by_cases hj : j = i
      · subst hj
        rw [hi] at e1; cases e1
        rw [List.getElem?_set_self hiσ] at e2
        cases e2
        exact ⟨u, r, .inr ⟨.inl hk, c, hc, hc'⟩⟩
      · rw [List.getElem?_set_ne (Ne.symm hj)] at e2
        obtain ⟨u', r', q⟩ := hl j y v' e1 e2 e3
        refine ⟨u', r', ?_⟩
        rcases q with q | ⟨k, c', e, z'⟩
        · exact .inl q
        · refine .inr ⟨k, c', e, z'.sameBut hs ?_⟩
          rintro rfl
          exact hj (nodup_ix hN e1 (I.ok.inj _ _ _ e hc ▸ hi))
    · by_cases hcc : c' = c
      · subst hcc; exact ⟨_, hc'⟩
      · obtain ⟨w2, z2⟩ := I.cell y c' e
        exact ⟨w2, z2.sameBut hs hcc⟩
    · obtain ⟨e, n, ne, nf, d⟩ := I.pin p hp
      refine ⟨(hs.2 p.1 ?_).trans e, n, ne, nf, d⟩
      intro q
      rw [q, hoc] at e
      have q' : oc = p.2 := Option.some.inj e
      exact d w' (by rw [← q']; exact hocd)
theorem store_ok {M : Model} {A : Around} {E : Value → Shared → Prop} {i : Nat} {x : Str} {v : V} {u : Value} {Q : Unit → Shared → Prop} (I : Inv X pins σ H s) (hN : X.N.Nodup) (hi : X.N[i]? = some x) (hx : Loc X.env.scope x) (r : RelV v u)
    (h : ∀ s', Inv X pins (σ.set i (some v)) H s' → Q () s') (hf : X.fn x = true ∨ X.env.scope.names.lookup x = some .local := by first | exact .inl rfl | exact .inr rfl | assumption) : wpAny M A (storeName X.env x u) Q E s :=
  store_ok2 I hN hi hx r (fun s' I' _ => h s' I') hf
theorem Inv.call' {s' : Shared} {ch : List Addr} (I : Inv X pins σ H s) (ho : s'.os = s.os) (u : Un (frs X.stack) ch H H' s.heap s'.heap) (hok : HOk X.prog X.w H' s'.heap) (hg : AllBare s'.gens)
    (hch : ∀ b ∈ ch, (b ∈ X.ex ∨ X.s₀.heap.objs.size ≤ b) ∧ b ≠ X.env.locals ∧ (∀ x c, X.env.cells.lookup x = some c → c ≠ b) ∧ ∀ p ∈ X.pn ++ pins, p.1 ≠ b) : Inv X pins σ H' s' := by
  obtain ⟨h', g', d', t', o'⟩ := s'
  have e : o' = s.os := ho
  subst e
  exact I.call (g' := g') (t' := t') (d' := d') u hok hg hch
end
abbrev XK := Value → Option Addr → Hp → Prop
abbrev St := List (Option V)
abbrev VK := V → Hp → Prop
abbrev TE := St → Hp → VK → Prop
abbrev TT := St → Hp → (Bool → Hp → Prop) → Prop
abbrev TA := St → Hp → (List V → Hp → Prop) → Prop
structure Ends where
  nx : St → Hp → Prop
  rt : VK
  bk : St → Hp → Prop := fun _ _ => False
  ct : St → Hp → Prop := fun _ _ => False
abbrev Ends.go (D : Ends) (n : St → Hp → Prop) : Ends := { D with nx := n }
abbrev Ends.lp (D : Ends) (n : St → Hp → Prop) : Ends := { D with nx := n, ct := n, bk := D.nx }
abbrev TS := Ends → St → Hp → Prop
def EP (X : Cx) (pins : List (Addr × Obj)) (σ : St) (Q : VK) (u : Value) (s' : Shared) : Prop := ∃ v H', Inv X pins σ H' s' ∧ RelV v u ∧ Q v H'
def TP (X : Cx) (pins : List (Addr × Obj)) (σ : St) (Q : Bool → Hp → Prop) (b : Bool) (s' : Shared) : Prop := ∃ H', Inv X pins σ H' s' ∧ Q b H'
def AP (X : Cx) (pins : List (Addr × Obj)) (σ : St) (Q : List V → Hp → Prop) (us : List Value) (s' : Shared) : Prop := ∃ vs H', Inv X pins σ H' s' ∧ Vals vs us ∧ Q vs H'
def SP (X : Cx) (pins : List (Addr × Obj)) (D : Ends) (f : Flow) (s' : Shared) : Prop :=
  match f with
  | .next => ∃ σ' H', Inv X pins σ' H' s' ∧ D.nx σ' H'
  | .brk => ∃ σ' H', Inv X pins σ' H' s' ∧ D.bk σ' H'
  | .cont => ∃ σ' H', Inv X pins σ' H' s' ∧ D.ct σ' H'
  | .ret u => ∃ v σ' H', Inv X pins σ' H' s' ∧ RelV v u ∧ D.rt v H'
def PE (X : Cx) (e : Expr) (t : TE) : Prop :=
  ∀ (pins : List (Addr × Obj)) (s : Shared) (σ : St) (H : Hp) (Q : VK), Inv X pins σ H s → t σ H Q → wpAny (model X.prog X.w) X.A (eval e X.env) (EP X pins σ Q) X.xe s
def PT (X : Cx) (e : Expr) (t : TT) : Prop :=
  ∀ (pins : List (Addr × Obj)) (s : Shared) (σ : St) (H : Hp) (Q : Bool → Hp → Prop), Inv X pins σ H s → t σ H Q → wpAny (model X.prog X.w) X.A (isTrue e X.env (eval e X.env)) (TP X pins σ Q) X.xe s
def PW (X : Cx) (e : Expr) (t : TT) : Prop :=
  ∀ (whole : Sem Value) (pins : List (Addr × Obj)) (s : Shared) (σ : St) (H : Hp) (Q : Bool → Hp → Prop), Inv X pins σ H s → t σ H Q → wpAny (model X.prog X.w) X.A (isTrue e X.env whole) (TP X pins σ Q) X.xe s
theorem PW.pt {X : Cx} {e : Expr} {t : TT} (h : PW X e t) : PT X e t := h _
def PA (X : Cx) (es : List Expr) (t : TA) : Prop :=
  ∀ (pos : Pos) (pins : List (Addr × Obj)) (s : Shared) (σ : St) (H : Hp) (Q : List V → Hp → Prop), Inv X pins σ H s → t σ H Q → wpAny (model X.prog X.w) X.A (spliced (backTo pos (starEach es X.env))) (AP X pins σ Q) X.xe s
def PS (X : Cx) (st : Stmt) (t : TS) : Prop :=
  ∀ (pins : List (Addr × Obj)) (s : Shared) (σ : St) (H : Hp) (D : Ends), Inv X pins σ H s → t D σ H → wpAny (model X.prog X.w) X.A (exec st X.env) (SP X pins D) X.xe s
def PSs (X : Cx) (st : List Stmt) (t : TS) : Prop :=
  ∀ (pins : List (Addr × Obj)) (s : Shared) (σ : St) (H : Hp) (D : Ends), Inv X pins σ H s → t D σ H → wpAny (model X.prog X.w) X.A (execs st X.env) (SP X pins D) X.xe s
theorem thn {α : Type} {t : Sem α} {Q Q' : α → Shared → Prop} {M : Model} {A : Around} {E : Value → Shared → Prop} {s : Shared} (h : wpAny M A t Q E s) (hQ : ∀ a s, Q a s → Q' a s) : wpAny M A t Q' E s := wpAny_mono h hQ fun _ _ x => x
end L2
namespace L2
open PySem PySem.Spec PyProof.Rows
section
variable {X : Cx}
def tVar (i : Nat) : TE := fun σ H Q => ∃ v, σ[i]? = some (some v) ∧ Q v H
def tC (v : V) : TE := fun _ H Q => Q v H
theorem pe_var {i : Nat} {x : Str} {pos : Pos} (hN : X.N[i]? = some x) (hv : Vis X.env.scope x) (hd : (x == ("__debug__" : Str)) = false := by decide) (hcd : (x == ("__classdict__" : Str)) = false := by decide) : PE X (.Name x pos) (tVar i) := by
  intro pins s σ H Q I h
  obtain ⟨v, e, h⟩ := h
  obtain ⟨m, hn, hl⟩ := I.loc
  obtain ⟨u, r, l⟩ := hl i x v hN e hv
  have fin : EP X pins σ Q u s := ⟨v, H, I, r, h⟩
  rcases l with ⟨hk, hm⟩ | ⟨hk, c, hc, hcell⟩
  · exact wpAny_Name (wpAny_loadName_local I.ok.kind hk hn hm fin) hd
  · rcases hk with hk | hk
    · exact wpAny_Name (wpAny_loadName_cell I.ok.kind hk hc hcell fin) hd
    · exact wpAny_Name (wpAny_loadName_free I.ok.kind hk hc hcell fin hcd) hd
theorem pe_int {i j pos} : PE X (.Constant (.int i) j pos) (tC (.int i)) := fun _ _ _ H _ I h => wpAny_Constant_int ⟨.int i, H, I.tok _, ⟨_, rfl⟩, h⟩
theorem pe_bl {b j pos} : PE X (.Constant (.bool b) j pos) (tC (.bl b)) := fun _ _ _ H _ I h => Constant_bool ⟨.bl b, H, I, rfl, h⟩
theorem pe_non {j pos} : PE X (.Constant .none j pos) (tC .non) := fun _ _ _ H _ I h => Constant_none ⟨.non, H, I, rfl, h⟩
theorem pe_str {x j pos} : PE X (.Constant (.str x) j pos) (tC (.str x)) := fun _ _ _ H _ I h => Calls.Constant_str ⟨.str x, H, I.tok _, ⟨_, rfl⟩, h⟩
def Gl (X : Cx) (x : Str) : Prop := X.env.kindOf x = some .globalImplicit
theorem ld_glob {E : Value → Shared → Prop} {pins : List (Addr × Obj)} {s : Shared} {σ : St} {H : Hp} {x : Str} {u : Value} {pos : Pos} {Q : Value → Shared → Prop} (I : Inv X pins σ H s) (hg : Gl X x) (hm : X.mg x = some u) (h : Q u s)
    (hd : (x == ("__debug__" : Str)) = false := by decide) : wpAny (model X.prog X.w) X.A (eval (.Name x pos) X.env) Q E s :=
  Calls.Name_function_global I.ok.kind hg (Calls.loadGlobal_global (by rw [I.ok.glob]; exact I.mod.glob.keeps I.bk) hm h) hd
theorem ld_blt {E : Value → Shared → Prop} {pins : List (Addr × Obj)} {s : Shared} {σ : St} {H : Hp} {x : Str} {u : Value} {pos : Pos} {Q : Value → Shared → Prop} (I : Inv X pins σ H s) (hg : Gl X x) (hm : X.mg x = none) (hv : bootBuiltins x = some u) (h : Q u s)
    (hn : x ≠ "__name__" := by decide) (hd : (x == ("__debug__" : Str)) = false := by decide) : wpAny (model X.prog X.w) X.A (eval (.Name x pos) X.env) Q E s := by
  obtain ⟨mb, h1, h2⟩ := I.mod.blt
  exact Calls.Name_function_global I.ok.kind hg (Calls.loadGlobal_builtin (by rw [I.ok.glob]; exact I.mod.glob.keeps I.bk) hm (by rw [I.ok.blt]; exact h1.keeps I.bk) ((h2 x hn).trans hv) h) hd
theorem pe_glob {x : Str} {v : V} {u : Value} {pos : Pos} (hg : Gl X x) (hm : X.mg x = some u) (r : RelV v u) (hd : (x == ("__debug__" : Str)) = false := by decide) : PE X (.Name x pos) (tC v) :=
  fun _ _ _ H _ I h => ld_glob I hg hm ⟨v, H, I, r, h⟩ hd
theorem pe_bltn {x : Str} {v : V} {u : Value} {pos : Pos} (hg : Gl X x) (hm : X.mg x = none) (hv : bootBuiltins x = some u) (r : RelV v u) (hn : x ≠ "__name__" := by decide) (hd : (x == ("__debug__" : Str)) = false := by decide) : PE X (.Name x pos) (tC v) :=
  fun _ _ _ H _ I h => ld_blt I hg hm hv ⟨v, H, I, r, h⟩ hn hd
variable {a b : Expr} {ta tb : TE} {pos : Pos}
def tB (t : TE) : TT := fun σ H Q => t σ H fun x H1 => ∃ c, x = .bl c ∧ Q c H1
theorem pt_val {e : Expr} {t : TE} (h : PE X e t) (he : ∀ whole, isTrue e X.env whole = (do let v ← whole; standAt e.pos; holding [v] (truthy v)) := by intro _; rfl) : PT X e (tB t) := by
  intro pins s σ H Q I hw
  refine isTrue_plain (thn (h pins s σ H _ I hw) fun v s1 ⟨x, H1, I1, r1, q1⟩ => ?_) (he _)
  obtain ⟨d, rfl, q⟩ := q1
  cases r1
  exact wpAny_truthy_bool ⟨H1, I1, q⟩
variable {tA tB' : TT} {rest : List Expr}
def tAnd (t u : TT) : TT := fun σ H Q => t σ H fun c H1 => if c = true then u σ H1 Q else Q false H1
def tOr (t u : TT) : TT := fun σ H Q => t σ H fun c H1 => if c = true then Q true H1 else u σ H1 Q
def tNot (t : TT) : TT := fun σ H Q => t σ H fun c H1 => Q (!c) H1
theorem pw_and1 (ha : PT X a tA) : PW X (.BoolOp .And [a] pos) tA := by
  intro wh pins s σ H Q I h
  refine isTrue_and (thn (ha pins s σ H Q I h) fun c s1 e => ?_)
  cases c with
  | true => exact isTrue_and_nil e
  | false => exact e
theorem pw_or1 (ha : PT X a tA) : PW X (.BoolOp .Or [a] pos) tA := by
  intro wh pins s σ H Q I h
  refine isTrue_or (thn (ha pins s σ H Q I h) fun c s1 e => ?_)
  cases c with
  | false => exact isTrue_or_nil e
  | true => exact e
theorem pw_and (ha : PT X a tA) (hb : PW X (.BoolOp .And (b :: rest) pos) tB') : PW X (.BoolOp .And (a :: b :: rest) pos) (tAnd tA tB') := by
  intro wh pins s σ H Q I h
  refine isTrue_and (thn (ha pins s σ H _ I h) fun c s1 ⟨H1, I1, q1⟩ => ?_)
  cases c with
  | true => exact hb wh pins s1 σ H1 Q I1 q1
  | false => exact ⟨H1, I1, q1⟩
theorem pw_or (ha : PT X a tA) (hb : PW X (.BoolOp .Or (b :: rest) pos) tB') : PW X (.BoolOp .Or (a :: b :: rest) pos) (tOr tA tB') := by
  intro wh pins s σ H Q I h
  refine isTrue_or (thn (ha pins s σ H _ I h) fun c s1 ⟨H1, I1, q1⟩ => ?_)
  cases c with
  | true => exact ⟨H1, I1, q1⟩
  | false => exact hb wh pins s1 σ H1 Q I1 q1
theorem pt_not (ha : PT X a tA) : PT X (.UnaryOp .Not a pos) (tNot tA) := by
  intro pins s σ H Q I h
  exact isTrue_not (ha pins s σ H (fun c H1 => Q (!c) H1) I h)
def tAndV (ta tb : TE) : TE := fun σ H Q => ta σ H fun x H1 => ∃ c, x = .bl c ∧ if c = true then tb σ H1 Q else Q (.bl false) H1
def tOrV (ta tb : TE) : TE := fun σ H Q => ta σ H fun x H1 => ∃ c, x = .bl c ∧ if c = true then Q (.bl true) H1 else tb σ H1 Q
def tNotV (ta : TE) : TE := fun σ H Q => ta σ H fun x H1 => ∃ c, x = .bl c ∧ Q (.bl (!c)) H1
theorem pe_one {op} {t : TE} (h : PE X a t) : PE X (.BoolOp op [a] pos) t := fun pins s σ H Q I hw => BoolOp_one (h pins s σ H Q I hw)
theorem pe_and (ha : PE X a ta) (hb : PE X (.BoolOp .And (b :: rest) pos) tb) : PE X (.BoolOp .And (a :: b :: rest) pos) (tAndV ta tb) := by
  intro pins s σ H Q I h
  refine BoolOp_and (thn (ha pins s σ H _ I h) fun v s1 ⟨x, H1, I1, r1, q1⟩ => ?_)
  obtain ⟨c, rfl, q1⟩ := q1
  cases r1
  refine wpAny_truthy_bool ?_
  cases c with
  | true => exact hb pins s1 σ H1 Q I1 q1
  | false => exact ⟨.bl false, H1, I1, rfl, q1⟩
theorem pe_not (ha : PE X a ta) : PE X (.UnaryOp .Not a pos) (tNotV ta) := by
  intro pins s σ H Q I h
  refine UnaryOp_ (thn (ha pins s σ H _ I h) fun v s1 ⟨x, H1, I1, r1, q1⟩ => ?_)
  obtain ⟨c, rfl, q1⟩ := q1
  cases r1
  exact not_of (wpAny_truthy_bool ⟨.bl (!c), H1, I1, rfl, q1⟩)
end
end L2
namespace L2
open PySem PySem.Spec PyProof.Rows
def SqL (K : PySem.W.Frag) (H : Hp) (a : Addr) (xs : List V) : Prop :=
  Rd H a (.lst xs) ∨
    ∃ (o : Obj) (its : Array Value) (n : Nat), K.lookup a = some o ∧ o.cls = .type "list" ∧ o.dict = none ∧ o.data = .seq its n ∧ its.size ≤ sizeLine ∧ Vals xs its.toList
def SqT (K : PySem.W.Frag) (H : Hp) (a : Addr) (xs : List V) : Prop :=
  Rd H a (.tup xs) ∨
    ∃ (o : Obj) (its : Array Value) (n : Nat), K.lookup a = some o ∧ o.cls = .type "tuple" ∧ o.data = .seq its n ∧ its.size ≤ sizeLine ∧ Vals xs its.toList
def absV : Value → Option V
  | .none => some .non
  | .bool b => some (.bl b)
  | .int i _ => some (.int i)
  | .str x _ => some (.str x)
  | .bytes b _ => some (.byt b)
  | .float b _ => some (.flt b)
  | .ref a => some (.ref a)
  | .type n => some (.ty n)
  | _ => none
theorem RelV.abs {x : V} {u : Value} (r : RelV x u) : absV u = some x := by
  cases x with
  | non => cases r; rfl
  | bl _ => cases r; rfl
  | int _ => obtain ⟨t, rfl⟩ := r; rfl
  | str _ => obtain ⟨t, rfl⟩ := r; rfl
  | byt _ => obtain ⟨t, rfl⟩ := r; rfl
  | flt _ => obtain ⟨t, rfl⟩ := r; rfl
  | ref _ => cases r; rfl
  | ty _ => cases r; rfl
theorem RelV.inj {x y : V} {u : Value} (r : RelV x u) (q : RelV y u) : x = y := Option.some.inj (r.abs.symm.trans q.abs)
theorem Vals.inj : ∀ {xs ys : List V} {us : List Value}, Vals xs us → Vals ys us → xs = ys
  | _, _, _, .nil, .nil => rfl
  | _, _, _, .cons r t, .cons r' t' => by rw [r.inj r', Vals.inj t t']
section
variable {X : Cx} {pins : List (Addr × Obj)} {σ : St} {H : Hp} {s : Shared} {a : Addr} {xs ys : List V}
theorem SqL.of {K : PySem.W.Frag} (h : H a = some (.lst xs)) : SqL K H a xs := .inl (.inl h)
theorem SqT.of {K : PySem.W.Frag} (h : H a = some (.tup xs)) : SqT K H a xs := .inl (.inl h)
theorem Inv.list (I : Inv X pins σ H s) (h : SqL X.K H a xs) : ∃ its : List Value, Vals xs its ∧ PlainL s.heap a its.toArray ∧ xs.length ≤ sizeLine := by
  rcases h with h | ⟨o, its, n, hk, hc, hd, hs, hz, r⟩
  · obtain ⟨z, its, n, r, e⟩ := h.ok I.hok
    exact ⟨its, r, ⟨_, n, e, rfl, rfl, rfl⟩, z⟩
  · refine ⟨its.toList, r, ⟨o, n, I.kIn a o hk, hc, hd, by simpa using hs⟩, ?_⟩
    have e := r.length
    simp only [Array.length_toList] at e
    omega
theorem Inv.tuple (I : Inv X pins σ H s) (h : SqT X.K H a xs) : ∃ its : List Value, Vals xs its ∧ IsTup s.heap a its.toArray ∧ xs.length ≤ sizeLine := by
  rcases h with h | ⟨o, its, n, hk, hc, hs, hz, r⟩
  · obtain ⟨z, its, r, p⟩ := h.ok I.hok
    exact ⟨its, r, p, z.1⟩
  · refine ⟨its.toList, r, ⟨o, I.kIn a o hk, hc, n, by simpa using hs⟩, ?_⟩
    have e := r.length
    simp only [Array.length_toList] at e
    omega
theorem Inv.list_inj (I : Inv X pins σ H s) (h : SqL X.K H a xs) (h' : SqL X.K H a ys) : xs = ys := by
  obtain ⟨its, r, ⟨o, n, e, _, _, d⟩, _⟩ := I.list h
  obtain ⟨its', r', ⟨o', n', e', _, _, d'⟩, _⟩ := I.list h'
  rw [e] at e'; cases e'
  rw [d] at d'
  injection d' with d1 _
  have : its = its' := by simpa using congrArg Array.toList d1
  subst this
  exact r.inj r'
end
abbrev Cx.wish (X : Cx) (E : Value → Shared → Prop) : Cx := { X with xe := E }
abbrev Cx.nox (X : Cx) : Cx := X.wish fun _ _ => False
theorem Cx.Ok.wish {X : Cx} (ok : X.Ok) (E : Value → Shared → Prop) : (X.wish E).Ok :=
  ⟨ok.mod, ok.kind, ok.glob, ok.blt, ok.above, ok.inj, ok.has, ok.cab, ok.hd, ok.frames, ok.stk, ok.exf, ok.bs, ok.bsz, ok.noex, ok.exfs, ok.funs, ok.frf⟩
theorem Cx.Ok.unwish {X : Cx} {E : Value → Shared → Prop} (ok : (X.wish E).Ok) : X.Ok :=
  ⟨ok.mod, ok.kind, ok.glob, ok.blt, ok.above, ok.inj, ok.has, ok.cab, ok.hd, ok.frames, ok.stk, ok.exf, ok.bs, ok.bsz, ok.noex, ok.exfs, ok.funs, ok.frf⟩
section
variable {X : Cx} {pins : List (Addr × Obj)} {σ : St} {H : Hp} {s : Shared} {E : Value → Shared → Prop}
theorem Inv.wish (I : Inv X pins σ H s) (E : Value → Shared → Prop) : Inv (X.wish E) pins σ H s := ⟨I.ok.wish E, I.os, I.bare, I.base, I.loc, I.cell, I.free, I.freeC, I.pin, I.hok, I.len⟩
theorem Inv.unwish (I : Inv (X.wish E) pins σ H s) : Inv X pins σ H s := ⟨I.ok.unwish, I.os, I.bare, I.base, I.loc, I.cell, I.free, I.freeC, I.pin, I.hok, I.len⟩
theorem SP.unwish {D : Ends} {f : Flow} {s' : Shared} (h : SP (X.wish E) pins D f s') : SP X pins D f s' := by
  cases f with
  | next => obtain ⟨σ', H', I, q⟩ := h; exact ⟨σ', H', I.unwish, q⟩
  | brk => obtain ⟨σ', H', I, q⟩ := h; exact ⟨σ', H', I.unwish, q⟩
  | cont => obtain ⟨σ', H', I, q⟩ := h; exact ⟨σ', H', I.unwish, q⟩
  | ret u => obtain ⟨v, σ', H', I, r, q⟩ := h; exact ⟨v, σ', H', I.unwish, r, q⟩
theorem PE.nox {e : Expr} {t : TE} (h : PE X.nox e t) : PE X e t := fun pins s σ H Q I hw =>
  wpAny_mono (h pins s σ H Q (I.wish _) hw) (fun _ _ ⟨v, H', I', r, q⟩ => ⟨v, H', I'.unwish, r, q⟩) fun _ _ z => False.elim z
theorem PSs.nox {st : List Stmt} {t : TS} (h : PSs X.nox st t) : PSs X st t := fun pins s σ H D I hw =>
  wpAny_mono (h pins s σ H D (I.wish _) hw) (fun _ _ q => q.unwish) fun _ _ z => False.elim z
end
section
variable {X : Cx} {st : Stmt} {rest : List Stmt} {t u : TS} {e : Expr} {te : TE} {pos : Pos}
def tNext : TS := fun D σ H => D.nx σ H
def tSeq (t u : TS) : TS := fun D σ H => t (D.go (u D)) σ H
theorem pss_nil : PSs X [] tNext := fun _ _ σ H _ I h => wpAny_execs_nil ⟨σ, H, I, h⟩
theorem pss_cons (h1 : PS X st t) (h2 : PSs X rest u) : PSs X (st :: rest) (tSeq t u) := by
  intro pins s σ H D I h
  refine wpAny_execs_cons (thn (h1 pins s σ H (D.go (u D)) I h) fun f s1 q => ?_)
  cases f with
  | next =>
    obtain ⟨σ', H', I', q⟩ := q
    exact h2 pins s1 σ' H' D I' q
  | ret v => exact q
  | brk => exact q
  | cont => exact q
theorem pss_one (h1 : PS X st t) : PSs X [st] t := by
  intro pins s σ H D I h
  refine wpAny_execs_cons (thn (h1 pins s σ H D I h) fun f s1 q => ?_)
  cases f with
  | next => exact wpAny_execs_nil q
  | ret v => exact q
  | brk => exact q
  | cont => exact q
theorem Inv.quiet {pins : List (Addr × Obj)} {σ : St} {H : Hp} {s : Shared} (I : Inv X pins σ H s) : interactive X.env = false := by simp [interactive, I.ok.kind]
def tDrop (te : TE) : TS := fun D σ H => te σ H fun _ H1 => D.nx σ H1
theorem ps_expr (he : PE X e te) (hs : swapsWith e none pos.line X.env = pure false := by rfl) : PS X (.Expr e pos) (tDrop te) := by
  intro pins s σ H D I h
  exact wpAny_Expr_any (thn (he pins s σ H _ I h) fun v s1 ⟨x, H1, I1, r1, q1⟩ => ⟨σ, H1, I1, q1⟩) I.quiet hs
def tRet (te : TE) : TS := fun D σ H => te σ H D.rt
theorem ps_ret (he : PE X e te) : PS X (.Return (some e) pos) (tRet te) := by
  intro pins s σ H D I h
  exact wpAny_Return_some (thn (he pins s σ H _ I h) fun v s1 ⟨x, H1, I1, r1, q1⟩ => ⟨x, σ, H1, I1, r1, q1⟩)
def tIfS (c : TT) (t u : TS) : TS := fun D σ H => c σ H fun b H1 => if b = true then t D σ H1 else u D σ H1
theorem ps_if {c : Expr} {a b : List Stmt} {tc : TT} (hc : PT X c tc) (ha : PSs X a t) (hb : PSs X b u) : PS X (.If c a b pos) (tIfS tc t u) := by
  intro pins s σ H D I h
  refine wpAny_If (thn (hc pins s σ H _ I h) fun d s1 ⟨H1, I1, q1⟩ => ?_)
  cases d with
  | true => exact ha pins s1 σ H1 D I1 q1
  | false => exact hb pins s1 σ H1 D I1 q1
end
abbrev TG := V → St → Hp → (St → Hp → Prop) → Prop
abbrev TGs := List V → St → Hp → (St → Hp → Prop) → Prop
def PG (X : Cx) (target : Expr) (t : TG) : Prop :=
  ∀ (pins : List (Addr × Obj)) (s : Shared) (σ : St) (H : Hp) (v : V) (u : Value) (Q : St → Hp → Prop), Inv X pins σ H s → RelV v u → t v σ H Q →
    wpAny (model X.prog X.w) X.A (assign target X.env u) (fun _ s' => ∃ σ' H', Inv X pins σ' H' s' ∧ Q σ' H') X.xe s
def PGs (X : Cx) (ts : List Expr) (t : TGs) : Prop :=
  ∀ (pins : List (Addr × Obj)) (s : Shared) (σ : St) (H : Hp) (vs : List V) (us : List Value) (Q : St → Hp → Prop), Inv X pins σ H s → Vals vs us → t vs σ H Q →
    wpAny (model X.prog X.w) X.A (assignInOrder ((assignEach ts X.env).map (·.2)) us) (fun _ s' => ∃ σ' H', Inv X pins σ' H' s' ∧ Q σ' H') X.xe s
abbrev TSet := V → V → V → Hp → (Hp → Prop) → Prop
def PSet (X : Cx) (t : TSet) : Prop :=
  ∀ (pins : List (Addr × Obj)) (s : Shared) (σ : St) (H : Hp) (o i v : V) (ov iv u : Value) (Q : Hp → Prop), Inv X pins σ H s → RelV o ov → RelV i iv → RelV v u → t o i v H Q →
    wpAny (model X.prog X.w) X.A (setItem ov iv u) (fun _ s' => ∃ H', Inv X pins σ H' s' ∧ Q H') X.xe s
abbrev TIp := V → V → Hp → VK → Prop
def PIp (X : Cx) (op : Operator) (t : TIp) : Prop :=
  ∀ (pins : List (Addr × Obj)) (s : Shared) (σ : St) (H : Hp) (x y : V) (v u : Value) (Q : VK), Inv X pins σ H s → RelV x v → RelV y u → t x y H Q →
    wpAny (model X.prog X.w) X.A (inplaceOp op v u) (EP X pins σ Q) X.xe s
section
variable {X : Cx} {pos : Pos}
def gName (i : Nat) : TG := fun v σ H Q => Q (σ.set i (some v)) H
theorem pg_name {i : Nat} {x : Str} (hN : X.N.Nodup) (hi : X.N[i]? = some x) (hx : Loc X.env.scope x) (hf : X.fn x = true ∨ X.env.scope.names.lookup x = some .local := by first | exact .inl rfl | exact .inr rfl | assumption) : PG X (.Name x pos) (gName i) := by
  intro pins s σ H v u Q I r h
  exact wpAny_assign_Name (store_ok I hN hi hx r (fun s' I' => ⟨_, H, I', h⟩) hf)
def gNil : TGs := fun vs σ H Q => vs = [] ∧ Q σ H
def gCons (t : TG) (u : TGs) : TGs := fun vs σ H Q => ∃ v r, vs = v :: r ∧ t v σ H fun σ' H' => u r σ' H' Q
theorem pgs_nil : PGs X [] gNil := by
  intro pins s σ H vs us Q I r h
  obtain ⟨e, h⟩ := h
  subst e
  cases r
  exact assignInOrder_nil ⟨σ, H, I, h⟩
theorem pgs_cons {e : Expr} {es : List Expr} {t : TG} {u : TGs} (h1 : PG X e t) (h2 : PGs X es u)
    (hs : (assignEach (e :: es) X.env).map (·.2) = assign e X.env :: (assignEach es X.env).map (·.2) := by rfl) : PGs X (e :: es) (gCons t u) := by
  intro pins s σ H vs us Q I r h
  obtain ⟨v, vr, e1, h⟩ := h
  subst e1
  cases r with
  | cons r rr =>
    rw [hs]
    refine assignInOrder_cons (thn (h1 pins s σ H _ _ _ I r h) fun _ s1 ⟨σ1, H1, I1, q1⟩ => ?_)
    exact h2 pins s1 σ1 H1 _ _ Q I1 rr q1
def gTup (K : PySem.W.Frag) (n : Nat) (t : TGs) : TG := fun v σ H Q => ∃ a xs, v = .ref a ∧ SqT K H a xs ∧ xs.length = n ∧ t xs σ H Q
theorem pg_tup {es : List Expr} {k : Nat} {t : TGs} {n : Nat} (hc : X.calm = true) (h : PGs X es t)
    (hn : (assignEach es X.env).length = n := by rfl) (hst : (assignEach es X.env).findIdx? (·.1) = none := by rfl) : PG X (.Tuple es k pos) (gTup X.K n t) := by
  intro pins s σ H v u Q I r hw
  obtain ⟨a, xs, e1, hq, hl, hw⟩ := hw
  subst e1
  cases r
  obtain ⟨its, rv, ht, hz⟩ := I.tuple hq
  refine assign_Tuple_tuple (I.ok.hd hc) ht (by simp [hn, ← hl, rv.length]) hst fun h' hx => ?_
  have I1 : Inv X pins σ H { s with heap := h' } := I.kept (t' := s.toks) fun b o e => hx b o (Nat.ne_of_lt (Heap.lt_size e)) e
  exact h pins _ σ H xs _ Q I1 (by simpa using rv) hw
def gSub (to ti : TE) (t : TSet) : TG := fun v σ H Q => to σ H fun o H1 => ti σ H1 fun i H2 => t o i v H2 fun H3 => Q σ H3
theorem pg_sub {o i : Expr} {to ti : TE} {t : TSet} (ho : PE X o to) (hi : PE X i ti) (hs : PSet X t)
    (ha : ∀ v, assign (.Subscript o i pos) X.env v = (do
      let ov ← holding [v] (eval o X.env)
      let iv ← holding [v, ov] (eval i X.env)
      standAt pos
      holding [v, ov, iv] (setItem ov iv v)
      release [v, ov, iv] []) := by intro _; rfl) : PG X (.Subscript o i pos) (gSub to ti t) := by
  intro pins s σ H v u Q I r h
  rw [ha]
  refine wpAny_bind (wpAny_holding (thn (ho pins s σ H _ I h) fun ov s1 ⟨x, H1, I1, r1, q1⟩ => ?_))
  refine wpAny_bind (wpAny_holding (thn (hi pins s1 σ H1 _ I1 q1) fun iv s2 ⟨y, H2, I2, r2, q2⟩ => ?_))
  refine wpAny_bind (wpAny_standAt (wpAny_bind (wpAny_holding (thn (hs pins s2 σ H2 x y v ov iv u _ I2 r1 r2 r q2) fun _ s3 ⟨H3, I3, q3⟩ => ?_))))
  exact wpAny_release ⟨σ, H3, I3, q3⟩
def tAsg (te : TE) (g : TG) : TS := fun D σ H => te σ H fun x H1 => g x σ H1 D.nx
theorem ps_asg {tg e : Expr} {te : TE} {g : TG} (he : PE X e te) (hg : PG X tg g) (hs : swapsWithSole [tg] e pos.line X.env = pure false := by rfl) (hw : swappedStores [tg] e X.env = pure none := by rfl)
    (h1 : (assignEach [tg] X.env).map (·.2) = [assign tg X.env] := by rfl) : PS X (.Assign [tg] e pos) (tAsg te g) := by
  intro pins s σ H D I h
  refine wpAny_Assign_stores (thn (he pins s σ H _ I h) fun v s1 ⟨x, H1, I1, r1, q1⟩ => ?_) hs hw
  rw [h1]
  exact thn (hg pins s1 σ H1 x v _ I1 r1 q1) fun _ s2 q => q
theorem ps_set {i : Nat} {x : Str} {e : Expr} {te : TE} {pos' : Pos} (hN : X.N.Nodup) (hi : X.N[i]? = some x) (hx : Loc X.env.scope x) (he : PE X e te) (hs : swapsWith e (some (.Name x pos')) pos.line X.env = pure false := by rfl) (hf : X.fn x = true ∨ X.env.scope.names.lookup x = some .local := by first | exact .inl rfl | exact .inr rfl | assumption) :
    PS X (.Assign [.Name x pos'] e pos) (tAsg te (gName i)) := by
  intro pins s σ H D I h
  refine wpAny_Assign_Name (thn (he pins s σ H _ I h) fun v s1 ⟨y, H1, I1, r1, q1⟩ => ?_) hs
  exact store_ok I1 hN hi hx r1 (fun s2 I2 => ⟨_, H1, I2, q1⟩) hf
def tAugS (to ti te : TE) (tget : V → V → Hp → VK → Prop) (tip : TIp) (tset : TSet) : TS := fun D σ H => to σ H fun o H1 => ti σ H1 fun i H2 => tget o i H2 fun x H3 => te σ H3 fun y H4 => tip x y H4 fun z H5 => tset o i z H5 fun H6 => D.nx σ H6
def PGet (X : Cx) (t : V → V → Hp → VK → Prop) : Prop :=
  ∀ (pins : List (Addr × Obj)) (s : Shared) (σ : St) (H : Hp) (o i : V) (ov iv : Value) (Q : VK), Inv X pins σ H s → RelV o ov → RelV i iv → t o i H Q →
    wpAny (model X.prog X.w) X.A (getItem ov iv) (EP X pins σ Q) X.xe s
theorem ps_augS {o i e : Expr} {to ti te : TE} {tget : V → V → Hp → VK → Prop} {tip : TIp} {tset : TSet} {op : Operator} {tpos : Pos} (ho : PE X o to) (hi : PE X i ti) (hg : PGet X tget) (he : PE X e te) (hp : PIp X op tip) (hs : PSet X tset)
    (ha : ∀ ov iv new, augStore i ov iv new = (do holding [new, ov, iv] (setItem ov iv new); release [new, ov, iv] []; pure .next) := by intros; rfl) : PS X (.AugAssign (.Subscript o i tpos) op e pos) (tAugS to ti te tget tip tset) := by
  intro pins s σ H D I h
  refine wpAny_AugAssign_SubscriptAny (thn (ho pins s σ H _ I h) fun ov s1 ⟨x1, H1, I1, r1, q1⟩ => ?_) ha
  refine thn (hi pins s1 σ H1 _ I1 q1) fun iv s2 ⟨x2, H2, I2, r2, q2⟩ => ?_
  refine thn (hg pins s2 σ H2 x1 x2 ov iv _ I2 r1 r2 q2) fun old s3 ⟨x3, H3, I3, r3, q3⟩ => ?_
  refine thn (he pins s3 σ H3 _ I3 q3) fun v s4 ⟨x4, H4, I4, r4, q4⟩ => ?_
  refine thn (hp pins s4 σ H4 x3 x4 old v _ I4 r3 r4 q4) fun new s5 ⟨x5, H5, I5, r5, q5⟩ => ?_
  exact thn (hs pins s5 σ H5 x1 x2 x5 ov iv new _ I5 r1 r2 r5 q5) fun _ s6 ⟨H6, I6, q6⟩ => ⟨σ, H6, I6, q6⟩
def ipI (f : Int → Int → Int) : TIp := fun x y H Q => ∃ i j, x = .int i ∧ y = .int j ∧ Q (.int (f i j)) H
theorem ip_add : PIp X .Add (ipI fun i j => i + j) := by
  intro pins s σ H x y v u Q I r1 r2 h
  obtain ⟨i, j, e1, e2, q⟩ := h
  subst e1; subst e2
  obtain ⟨t, rfl⟩ := r1
  obtain ⟨t', rfl⟩ := r2
  exact iadd_int ⟨.int _, H, I.tok _, ⟨_, rfl⟩, q⟩
end
section
variable {X : Cx} {pos : Pos}
end
structure It where
  go : Nat → Hp → Prop
  yld : Nat → Hp → V → Hp → Prop
  stop : Nat → Hp → Prop
def FpOk (X : Cx) (pins : List (Addr × Obj)) (H : Hp) (b : Addr) : Prop :=
  H b = none ∧ b ≠ X.env.locals ∧ b ∉ X.fs ∧ (b ∈ X.ex ∨ X.s₀.heap.objs.size ≤ b) ∧ (∀ x c, X.env.cells.lookup x = some c → c ≠ b) ∧ ∀ p ∈ X.pn ++ pins, p.1 ≠ b
theorem Inv.fpOk {X : Cx} {pins : List (Addr × Obj)} {σ : St} {H H' : Hp} {s : Shared} {b : Addr} (I : Inv X pins σ H s) (hb : s.heap.objs.size ≤ b) (hn : H' b = none) : FpOk X pins H' b := by
  refine ⟨hn, Nat.ne_of_gt (Nat.lt_of_lt_of_le I.lt hb), I.nofs hb, .inr (Nat.le_trans I.sz hb), fun x c e z => ?_, fun p hp z => ?_⟩
  · obtain ⟨v, q⟩ := I.cell x c e
    exact absurd (Nat.lt_of_lt_of_le q.lt (by rw [z]; exact hb)) (Nat.lt_irrefl _)
  · exact absurd (Nat.lt_of_lt_of_le (Heap.lt_size (I.pin p hp).1) (by rw [z]; exact hb)) (Nat.lt_irrefl _)
structure Turn (P : Program) (w : World) (K : PySem.W.Frag) (tg : Expr) (J : It) (fp : List Addr) (it : Addr) (tn : Nat → Heap → Prop) : Prop where
  mem : it ∈ fp
  obj : ∀ i h, tn i h → ∀ b ∈ fp, ∃ o, h.get? b = some o ∧ ∀ v, o.data ≠ .cell v
  keep : ∀ i h h', tn i h → (∀ b ∈ fp, ∀ o, h.get? b = some o → h'.get? b = some o) → tn i h'
  item : ∀ (X : Cx), X.prog = P → X.w = w → X.K = K → X.calm = true → ∀ (i : Nat) (pins : List (Addr × Obj)) (s : Shared) (σ : St) (H : Hp) (E : Value → Shared → Prop), Inv X pins σ H s → (∀ b ∈ fp, FpOk X pins H b) → tn i s.heap → J.go i H →
    wpAny (model P w) X.A (pyNext (.ref it)) (fun r s1 => ∃ u, r = some u ∧
      wpAny (model P w) X.A (letOwnedTupleGo tg (.ref it) u) (fun _ s2 => ∃ x H', Inv X pins σ H' s2 ∧ RelV x u ∧ J.yld i H x H' ∧ tn (i + 1) s2.heap ∧ ∀ b ∈ fp, H' b = none) E s1) E s
  done : ∀ (X : Cx), X.prog = P → X.w = w → X.K = K → X.calm = true → ∀ (i : Nat) (pins : List (Addr × Obj)) (s : Shared) (σ : St) (H : Hp) (E : Value → Shared → Prop), Inv X pins σ H s → (∀ b ∈ fp, FpOk X pins H b) → tn i s.heap → J.stop i H →
    wpAny (model P w) X.A (pyNext (.ref it)) (fun r s1 => r = none ∧ Inv X pins σ H s1) E s
  self : ∀ (A : Around) (i : Nat) (s : Shared) (Q : Value → Shared → Prop) (E : Value → Shared → Prop), tn i s.heap → Q (.ref it) s → wpAny (model P w) A (pyIter (.ref it)) Q E s
abbrev TI := St → Hp → (It → Hp → Prop) → Prop
def PIE (X : Cx) (pins : List (Addr × Obj)) (σ : St) (tg : Expr) (R : It → Hp → Prop) (itv : Value) (s2 : Shared) : Prop :=
  ∃ (it : Addr) (fp : List Addr) (tn : Nat → Heap → Prop) (J : It) (H' : Hp), itv = .ref it ∧ Inv X pins σ H' s2 ∧ Turn X.prog X.w X.K tg J fp it tn ∧ tn 0 s2.heap ∧ (∀ b ∈ fp, FpOk X pins H' b) ∧ R J H'
def PI (X : Cx) (tg iter : Expr) (wi : TI) : Prop :=
  ∀ (pins : List (Addr × Obj)) (s : Shared) (σ : St) (H : Hp) (R : It → Hp → Prop), Inv X pins σ H s → wi σ H R →
    wpAny (model X.prog X.w) X.A (eval iter X.env) (fun v s1 => wpAny (model X.prog X.w) X.A (pyIter v) (PIE X pins σ tg R) X.xe s1) X.xe s
theorem go_of {M : Model} {A : Around} {E : Value → Shared → Prop} {s : Shared} {tg : Expr} {it : Addr} {u : Value} {o : Obj} {n : String} {vs : Array Value} {Q : Unit → Shared → Prop} (ho : s.heap.get? it = some o) (hc : o.cls = .type n) (hd : o.data = .fields vs)
    (hn : ["enumerate", "zip", "dict_itemiterator", "dict_reverseitemiterator", "odict_iterator", "itertools.zip_longest", "itertools.pairwise"].contains n = false) (hQ : Q () s) : wpAny M A (letOwnedTupleGo tg (.ref it) u) Q E s := by
  unfold letOwnedTupleGo
  cases tg <;> first
    | exact wpAny_pure hQ
    | (cases u <;> first
        | exact wpAny_pure hQ
        | (refine wpAny_bind (wpAny_load ho ?_)
           rw [hc, hd]
           show wpAny M A (if (["enumerate", "zip", "dict_itemiterator", "dict_reverseitemiterator", "odict_iterator", "itertools.zip_longest", "itertools.pairwise"].contains n && vs[0]? == some (rawInt _)) = true then _ else _) Q E s
           rw [if_neg (by intro h; rw [hn, Bool.false_and] at h; cases h)]
           exact wpAny_pure hQ))
def Itl (K : PySem.W.Frag) (a : Addr) : It :=
  ⟨fun i H => ∃ xs x, SqL K H a xs ∧ xs[i]? = some x, fun i H x H' => H' = H ∧ ∀ xs, SqL K H a xs → xs[i]? = some x, fun i H => ∃ xs, SqL K H a xs ∧ xs.length ≤ i⟩
def Itr (lo : Int) (n : Nat) : It := ⟨fun i _ => i < n, fun i H x H' => H' = H ∧ x = .int (lo + i), fun i _ => n ≤ i⟩
theorem turn_list {P : Program} {w : World} {K : PySem.W.Frag} {tg : Expr} (a it : Addr) : Turn P w K tg (Itl K a) [it] it (fun i h => h.IsListIter it a i) where
  mem := by simp
  obj := fun i h st b hb => by
    have e : b = it := by simpa using hb
    subst e
    obtain ⟨o, e, c, d⟩ := st
    exact ⟨o, e, fun v z => by rw [d] at z; cases z⟩
  keep := fun i h h' st k => st.at fun o e => k it (by simp) o e
  item := by
    intro X hP hw hK hc i pins s σ H E I hf st hg
    subst hP hw hK
    obtain ⟨xs, x, hq, hx⟩ := hg
    obtain ⟨its, rv, p, hz⟩ := I.list hq
    obtain ⟨u, hu, ru⟩ := rv.get hx
    obtain ⟨f0, f1, f2, f3, f4, f5⟩ := hf it (by simp)
    refine wpAny_pyNext_list_item st p.isList (x := u) (by simpa using hu) fun h' st' sb => ?_
    have I1 : Inv X pins σ H { s with heap := h' } := I.turned (t' := s.toks) (fun b o hb e => (sb.2 b hb).trans e) f0 f1 f3 f4 f5
    obtain ⟨o, e, c, d⟩ := id st'
    exact ⟨u, rfl, go_of (s := { s with heap := h' }) e c d (by decide) ⟨x, H, I1, ru, ⟨rfl, fun ys hy => by rw [I.list_inj hy hq]; exact hx⟩, st', fun b hb => (hf b hb).1⟩⟩
  done := by
    intro X hP hw hK hc i pins s σ H E I hf st hg
    subst hP hw hK
    obtain ⟨xs, hq, hx⟩ := hg
    obtain ⟨its, rv, p, hz⟩ := I.list hq
    obtain ⟨f0, f1, f2, f3, f4, f5⟩ := hf it (by simp)
    have hl := rv.length
    exact wpAny_pyNext_list_end (I.ok.hd hc) st p.isList (by simp; omega) fun h' eb => ⟨rfl, I.turned (t' := s.toks) (fun b o hb e => eb b o hb e) f0 f1 f3 f4 f5⟩
  self := fun _ _ _ _ _ st h => wpAny_pyIter_listiter st h
theorem turn_range {P : Program} {w : World} {K : PySem.W.Frag} {tg : Expr} (it : Addr) (lo : Int) (n : Nat) : Turn P w K tg (Itr lo n) [it] it (fun i h => IsRangeIter h it (lo + (i : Nat) * 1) ((n : Int) - (i : Nat)) 1) where
  mem := by simp
  obj := fun i h st b hb => by
    have e : b = it := by simpa using hb
    subst e
    exact ⟨_, st, fun v z => by
      have z' : Data.fields _ = Data.cell v := z
      cases z'⟩
  keep := fun i h h' st k => k it (by simp) _ st
  item := by
    intro X hP hw hK hc i pins s σ H E I hf st hg
    subst hP hw hK
    obtain ⟨f0, f1, f2, f3, f4, f5⟩ := hf it (by simp)
    have W := Walks.range (prog := X.prog) (w := X.w) (I.ok.hd hc) it lo 1 n
    refine W.item i s _ _ hg st fun v h' tk hv st' kk => ?_
    obtain ⟨t, rfl⟩ := hv
    have I1 : Inv X pins σ H { s with heap := h', toks := tk } := I.turned (fun b o hb e => kk b o (by simpa using hb) e) f0 f1 f3 f4 f5
    refine ⟨_, rfl, go_of (s := { s with heap := h', toks := tk }) (n := "range_iterator") st' rfl rfl (by decide) ⟨.int (lo + i), H, I1, ⟨t, ?_⟩, ⟨rfl, rfl⟩, st', fun b hb => (hf b hb).1⟩⟩
    rw [Int.mul_one]
  done := by
    intro X hP hw hK hc i pins s σ H E I hf st hg
    subst hP hw hK
    obtain ⟨f0, f1, f2, f3, f4, f5⟩ := hf it (by simp)
    exact wpAny_pyNext_range_end (I.ok.hd hc) st (by have : n ≤ i := hg; omega) fun h' eb => ⟨rfl, I.turned (t' := s.toks) (fun b o hb e => eb b o hb e) f0 f1 f3 f4 f5⟩
  self := fun _ _ _ _ _ st h => wpAny_pyIter_rangeiter st h
end L2
namespace L2
open PySem PySem.Spec PyProof.Rows
section
variable {X : Cx} {tg : Expr}
def iList (K : PySem.W.Frag) (tl : TE) : TI := fun σ H R => tl σ H fun x H1 => ∃ a, x = .ref a ∧ (∃ xs, SqL K H1 a xs) ∧ R (Itl K a) H1
theorem pi_list {l : Expr} {tl : TE} (hl : PE X l tl) : PI X tg l (iList X.K tl) := by
  intro pins s σ H R I h
  refine thn (hl pins s σ H _ I h) fun v s1 ⟨x, H1, I1, r1, q1⟩ => ?_
  obtain ⟨a, e, ⟨xs, hq⟩, q⟩ := q1
  subst e
  cases r1
  obtain ⟨its, rv, p, hz⟩ := I1.list hq
  refine wpAny_pyIter_list p.isList ?_
  refine ⟨s1.heap.objs.size, [s1.heap.objs.size], _, _, H1, rfl, I1.kept (t' := s1.toks) fun b o e => Heap.get?_push_of_some _ e, turn_list a _, ⟨_, Heap.get?_push_size _ rfl, rfl, rfl⟩, fun b hb => ?_, q⟩
  have e : b = s1.heap.objs.size := by simpa using hb
  subst e
  exact I1.fpOk (Nat.le_refl _) (I1.hok.fresh (Nat.le_refl _))
theorem range_it {pins : List (Addr × Obj)} {σ : St} {H : Hp} {s : Shared} {R : It → Hp → Prop} {E : Value → Shared → Prop} {lo hi : Int} {t u v : Tok} {tk : Nat} (I : Inv X pins σ H s) (h1 : -(2 ^ 62) ≤ lo) (h2 : lo < 2 ^ 62) (h3 : -(2 ^ 62) ≤ hi) (h4 : hi < 2 ^ 62)
    (q : R (Itr lo (hi - lo).toNat) H) : wpAny (model X.prog X.w) X.A (pyIter (.ref s.heap.objs.size)) (PIE X pins σ tg R) E { s with heap := s.heap.push { cls := .type "range", data := .fields #[.int lo t, .int hi u, .int 1 v] }, toks := tk } := by
  refine wpAny_pyIter_range (IsRange.new ..) (small_one h1 h2 h3 h4) ?_
  have I1 : Inv X pins σ H { s with heap := s.heap.push { cls := .type "range", data := .fields #[.int lo t, .int hi u, .int 1 v] }, toks := tk } := I.kept fun b o e => Heap.get?_push_of_some _ e
  refine ⟨(s.heap.push { cls := .type "range", data := .fields #[.int lo t, .int hi u, .int 1 v] }).objs.size, [(s.heap.push { cls := .type "range", data := .fields #[.int lo t, .int hi u, .int 1 v] }).objs.size], _, _, H, rfl,
    I1.kept (t' := tk) fun b o e => Heap.get?_push_of_some _ e, turn_range _ lo (hi - lo).toNat, ?_, fun b hb => ?_, q⟩
  · have e1 : lo + ((0 : Nat) : Int) * 1 = lo := by simp
    have e2 : (((hi - lo).toNat : Nat) : Int) - ((0 : Nat) : Int) = Builtin.Range.rangeSize lo hi 1 := by rw [rangeSize_one]; split <;> omega
    show IsRangeIter _ _ (lo + ((0 : Nat) : Int) * 1) ((((hi - lo).toNat : Nat) : Int) - ((0 : Nat) : Int)) 1
    rw [e1, e2]
    exact Heap.get?_push_size _ rfl
  · have e : b = (s.heap.push { cls := .type "range", data := .fields #[.int lo t, .int hi u, .int 1 v] }).objs.size := by simpa using hb
    subst e
    exact I1.fpOk (Nat.le_refl _) (I1.hok.fresh (Nat.le_refl _))
def iRng1 (ta : TA) : TI := fun σ H R => ta σ H fun vs H1 => ∃ j : Int, vs = [.int j] ∧ -(2 ^ 62) ≤ j ∧ j < 2 ^ 62 ∧ R (Itr 0 j.toNat) H1
def iRng2 (ta : TA) : TI := fun σ H R => ta σ H fun vs H1 => ∃ i j : Int, vs = [.int i, .int j] ∧ (-(2 ^ 62) ≤ i ∧ i < 2 ^ 62 ∧ -(2 ^ 62) ≤ j ∧ j < 2 ^ 62) ∧ R (Itr i (j - i).toNat) H1
theorem pi_range1 {a : Expr} {ta : TA} {p pos : Pos} (hg : Gl X "range") (hm : X.mg "range" = none) (ha : PA X [a] ta) (hs : starEach [a] X.env = [(false, eval a X.env)] := by rfl) : PI X tg (.Call (.Name "range" p) [a] [] pos) (iRng1 ta) := by
  intro pins s σ H R I h
  refine Call_ (ld_blt I hg hm boot_range (PyProof.Rows.callWith_type1 (thn (ha pos pins s σ H _ I h) fun us s1 ⟨vs, H1, I1, r1, q1⟩ => ?_) hs rfl))
  obtain ⟨j, e, q1, q2, q⟩ := q1
  subst e
  cases r1 with
  | cons r rr =>
    cases rr
    obtain ⟨t, rfl⟩ := r
    exact call_range_1 (range_it I1 (by omega) (by omega) q1 q2 (by simpa using q))
theorem pi_range2 {a b : Expr} {ta : TA} {p pos : Pos} (hg : Gl X "range") (hm : X.mg "range" = none) (ha : PA X [a, b] ta) (hs : starEach [a, b] X.env = [(false, eval a X.env), (false, eval b X.env)] := by rfl) (hs2 : starEach [b] X.env = [(false, eval b X.env)] := by rfl) :
    PI X tg (.Call (.Name "range" p) [a, b] [] pos) (iRng2 ta) := by
  intro pins s σ H R I h
  refine Call_ (ld_blt I hg hm boot_range (PyProof.Rows.callWith_type1 (thn (ha pos pins s σ H _ I h) fun us s1 ⟨vs, H1, I1, r1, q1⟩ => ?_) (by rw [hs, hs2]) (by rw [hs2]; rfl)))
  obtain ⟨i, j, e, ⟨q1, q2, q3, q4⟩, q⟩ := q1
  subst e
  cases r1 with
  | cons r rr =>
    cases rr with
    | cons r' rr =>
      cases rr
      obtain ⟨t, rfl⟩ := r
      obtain ⟨t', rfl⟩ := r'
      exact call_range_2 (range_it I1 q1 q2 q3 q4 q)
def tFor (wi : TI) (g : TG) (tb : TS) : TS := fun D σ H => wi σ H fun J H1 => ∃ W : Nat → Nat → St → Hp → Prop, (∃ m, W 0 m σ H1) ∧ ∀ i m σ H, W i m σ H →
  (J.stop i H ∧ D.nx σ H) ∨ (J.go i H ∧ ∃ N : St → Hp → Prop, (∀ σ' H', N σ' H' → ∃ m', m' < m ∧ W (i + 1) m' σ' H') ∧ ∀ x H', J.yld i H x H' → g x σ H' fun σ2 H2 => tb (D.lp N) σ2 H2)
def pinsAt (fp : List Addr) (h : Heap) : List (Addr × Obj) := fp.filterMap fun b => (h.get? b).map fun o => (b, o)
theorem mem_pinsAt {fp : List Addr} {h : Heap} {b : Addr} {o : Obj} (hb : b ∈ fp) (e : h.get? b = some o) : (b, o) ∈ pinsAt fp h := List.mem_filterMap.mpr ⟨b, hb, by rw [e]; rfl⟩
theorem of_pinsAt {fp : List Addr} {h : Heap} {p : Addr × Obj} (hp : p ∈ pinsAt fp h) : p.1 ∈ fp ∧ h.get? p.1 = some p.2 := by
  obtain ⟨b, hb, e⟩ := List.mem_filterMap.mp hp
  cases q : h.get? b with
  | none => rw [q] at e; cases e
  | some o =>
    rw [q] at e
    have e' : (b, o) = p := Option.some.inj e
    subst e'
    exact ⟨hb, q⟩
theorem Inv.pinned {pins : List (Addr × Obj)} {σ : St} {H : Hp} {s : Shared} {fp : List Addr} (I : Inv X pins σ H s) (hf : ∀ b ∈ fp, FpOk X pins H b) (ho : ∀ b ∈ fp, ∃ o, s.heap.get? b = some o ∧ ∀ v, o.data ≠ .cell v) : Inv X (pins ++ pinsAt fp s.heap) σ H s :=
  I.pins_of fun p hp => (List.mem_append.mp hp).elim (fun z => I.pin p (List.mem_append_right _ z)) fun z => by
    obtain ⟨hb, e⟩ := of_pinsAt z
    obtain ⟨f0, f1, f2, _⟩ := hf p.1 hb
    obtain ⟨o, e', d⟩ := ho p.1 hb
    rw [e] at e'; cases e'
    exact ⟨e, f0, f1, f2, d⟩
theorem Inv.unpinned {pins pl : List (Addr × Obj)} {σ : St} {H : Hp} {s : Shared} (I : Inv X (pins ++ pl) σ H s) : Inv X pins σ H s := I.pins_of fun p hp => I.pin p (List.mem_append_right _ (List.mem_append_left _ hp))
theorem ps_for {iter : Expr} {body : List Stmt} {wi : TI} {g : TG} {tb : TS} {pos : Pos} (hp : PassesOwn (model X.prog X.w) X.A X.env X.xe) (hc : X.calm = true) (hi : PI X tg iter wi) (hg : PG X tg g) (hb : PSs X body tb)
    (hs : ∀ x, foldedSetIterable iter X.env x = pure x := by intro _; rfl) : PS X (.For tg iter body [] pos) (tFor wi g tb) := by
  intro pins s σ H D I h
  refine wpAny_For (thn (hi pins s σ H _ I h) fun v s1 h1 => thn h1 fun itv s2 h2 => ?_) hs
  obtain ⟨it, fp, tn, J, H2, e, I2, T, st2, f2, W, ⟨m0, w0⟩, turn⟩ := h2
  subst e
  -- what stays true of the iterator's objects through the loop
  have stat : ∀ {H' : Hp}, (∀ b ∈ fp, H' b = none) → ∀ b ∈ fp, FpOk X pins H' b := fun hn b hb => ⟨hn b hb, (f2 b hb).2⟩
  refine codeAny_forLoop_any (fun n s' => ∃ i σ' H', Inv X pins σ' H' s' ∧ tn i s'.heap ∧ (∀ b ∈ fp, H' b = none) ∧ W i n σ' H') ?_ m0 ⟨0, σ, H2, I2, st2, fun b hb => (f2 b hb).1, w0⟩
  rintro n s3 ⟨i, σ3, H3, I3, st3, fr3, w3⟩
  rcases turn i n σ3 H3 w3 with ⟨stop, qn⟩ | ⟨go, N, hN, step⟩
  · refine wpAny_passesOwn hp (thn (T.done X rfl rfl rfl hc i pins s3 σ3 H3 X.xe I3 (stat fr3) st3 stop) fun r s4 ⟨hr, I4⟩ => ?_)
    subst hr
    exact wpAny_execs_nil ⟨σ3, H3, I4, qn⟩
  · refine wpAny_passesOwn hp (thn (T.item X rfl rfl rfl hc i pins s3 σ3 H3 X.xe I3 (stat fr3) st3 go) fun r s4 ⟨u, hr, h4⟩ => ?_)
    subst hr
    refine wpAny_passesOwn hp (thn h4 fun _ s5 ⟨x, H5, I5, r5, y5, st5, fr5⟩ => ?_)
    have I5' := I5.pinned (stat fr5) (T.obj _ _ st5)
    refine wpAny_passesOwn hp (thn (hg _ s5 σ3 H5 x u _ I5' r5 (step x H5 y5)) fun _ s6 ⟨σ6, H6, I6, q6⟩ => ?_)
    refine wpAny_passesOwn hp (thn (hb _ s6 σ6 H6 _ I6 q6) fun f s7 q7 => ?_)
    have again : ∀ {σ7 : St} {H7 : Hp}, Inv X (pins ++ pinsAt fp s5.heap) σ7 H7 s7 → N σ7 H7 → ∃ m, m < n ∧ ∃ i σ' H', Inv X pins σ' H' s7 ∧ tn i s7.heap ∧ (∀ b ∈ fp, H' b = none) ∧ W i m σ' H' := fun {σ7 H7} I7 n7 => by
      obtain ⟨m', hm, w7⟩ := hN σ7 H7 n7
      refine ⟨m', hm, i + 1, σ7, H7, I7.unpinned, T.keep _ _ _ st5 fun b hb o e => (I7.pin (b, o) (List.mem_append_right _ (List.mem_append_right _ (mem_pinsAt hb e)))).1, fun b hb => ?_, w7⟩
      obtain ⟨o, e, d⟩ := T.obj _ _ st5 b hb
      exact (I7.pin (b, o) (List.mem_append_right _ (List.mem_append_right _ (mem_pinsAt hb e)))).2.1
    cases f with
    | next => obtain ⟨σ7, H7, I7, n7⟩ := q7; exact again I7 n7
    | cont => obtain ⟨σ7, H7, I7, n7⟩ := q7; exact again I7 n7
    | brk => obtain ⟨σ7, H7, I7, q7⟩ := q7; exact ⟨σ7, H7, I7.unpinned, q7⟩
    | ret v => obtain ⟨x7, σ7, H7, I7, r7, q7⟩ := q7; exact ⟨x7, σ7, H7, I7.unpinned, r7, q7⟩
end
theorem for_list {K : PySem.W.Frag} {a : Addr} {xs : List V} {g : TG} {tb : TS} {D : Ends} {σ : St} {H : Hp} (Pv : Nat → St → Hp → Prop) (h0 : Pv 0 σ H) (hl : ∀ i σ H, i ≤ xs.length → Pv i σ H → SqL K H a xs)
    (hs : ∀ i x σ H, xs[i]? = some x → Pv i σ H → g x σ H fun σ2 H2 => tb (D.lp (Pv (i + 1))) σ2 H2) (hd : ∀ σ H, Pv xs.length σ H → D.nx σ H) :
    ∃ W : Nat → Nat → St → Hp → Prop, (∃ m, W 0 m σ H) ∧ ∀ i m σ H, W i m σ H →
      ((Itl K a).stop i H ∧ D.nx σ H) ∨ ((Itl K a).go i H ∧ ∃ N : St → Hp → Prop, (∀ σ' H', N σ' H' → ∃ m', m' < m ∧ W (i + 1) m' σ' H') ∧ ∀ x H', (Itl K a).yld i H x H' → g x σ H' fun σ2 H2 => tb (D.lp N) σ2 H2) := by
  refine ⟨fun i m σ H => m = xs.length - i ∧ i ≤ xs.length ∧ Pv i σ H, ⟨xs.length, by simp, Nat.zero_le _, h0⟩, ?_⟩
  rintro i m σ H ⟨rfl, hi, p⟩
  have q := hl i σ H hi p
  by_cases hlt : i < xs.length
  · refine .inr ⟨⟨xs, xs[i], q, by simp [hlt]⟩, Pv (i + 1), fun σ' H' p' => ⟨xs.length - (i + 1), by omega, rfl, hlt, p'⟩, fun x H' y => ?_⟩
    obtain ⟨e, y⟩ := y
    subst e
    exact hs i x σ _ (y xs q) p
  · have e : i = xs.length := by omega
    subst e
    exact .inl ⟨⟨xs, q, Nat.le_refl _⟩, hd σ H p⟩
theorem for_range {lo : Int} {n : Nat} {g : TG} {tb : TS} {D : Ends} {σ : St} {H : Hp} (Pv : Nat → St → Hp → Prop) (h0 : Pv 0 σ H)
    (hs : ∀ i σ H, i < n → Pv i σ H → g (.int (lo + i)) σ H fun σ2 H2 => tb (D.lp (Pv (i + 1))) σ2 H2) (hd : ∀ σ H, Pv n σ H → D.nx σ H) :
    ∃ W : Nat → Nat → St → Hp → Prop, (∃ m, W 0 m σ H) ∧ ∀ i m σ H, W i m σ H →
      ((Itr lo n).stop i H ∧ D.nx σ H) ∨ ((Itr lo n).go i H ∧ ∃ N : St → Hp → Prop, (∀ σ' H', N σ' H' → ∃ m', m' < m ∧ W (i + 1) m' σ' H') ∧ ∀ x H', (Itr lo n).yld i H x H' → g x σ H' fun σ2 H2 => tb (D.lp N) σ2 H2) := by
  refine ⟨fun i m σ H => m = n - i ∧ i ≤ n ∧ Pv i σ H, ⟨n, by simp, Nat.zero_le _, h0⟩, ?_⟩
  rintro i m σ H ⟨rfl, hi, p⟩
  by_cases hlt : i < n
  · refine .inr ⟨hlt, Pv (i + 1), fun σ' H' p' => ⟨n - (i + 1), by omega, rfl, hlt, p'⟩, fun x H' y => ?_⟩
    obtain ⟨e, y⟩ := y
    subst e y
    exact hs i σ _ hlt p
  · have e : i = n := by omega
    subst e
    exact .inl ⟨Nat.le_refl _, hd σ H p⟩
end L2
namespace L2
open PySem PySem.Spec PyProof.Rows
abbrev R2 := V → V → Hp → VK → Prop
def OpR (X : Cx) (f : Value → Value → Sem Value) (r : R2) : Prop :=
  ∀ (pins : List (Addr × Obj)) (s : Shared) (σ : St) (H : Hp) (x y : V) (v u : Value) (Q : VK), Inv X pins σ H s → RelV x v → RelV y u → r x y H Q →
    wpAny (model X.prog X.w) X.A (f v u) (EP X pins σ Q) X.xe s
def UnR (X : Cx) (f : Value → Sem Value) (r : V → Hp → VK → Prop) : Prop :=
  ∀ (pins : List (Addr × Obj)) (s : Shared) (σ : St) (H : Hp) (x : V) (v : Value) (Q : VK), Inv X pins σ H s → RelV x v → r x H Q →
    wpAny (model X.prog X.w) X.A (f v) (EP X pins σ Q) X.xe s
def CallR (X : Cx) (f : Value) (r : List V → Hp → VK → Prop) : Prop :=
  ∀ (pins : List (Addr × Obj)) (s : Shared) (σ : St) (H : Hp) (xs : List V) (us : List Value) (Q : VK), Inv X pins σ H s → Vals xs us → r xs H Q →
    wpAny (model X.prog X.w) X.A (call f us) (EP X pins σ Q) X.xe s
def tOp (r : R2) (ta tb : TE) : TE := fun σ H Q => ta σ H fun x H1 => tb σ H1 fun y H2 => r x y H2 Q
def tUn (r : V → Hp → VK → Prop) (ta : TE) : TE := fun σ H Q => ta σ H fun x H1 => r x H1 Q
def rI (C : Int → Int → Prop) (g : Int → Int → V) : R2 := fun x y H Q => ∃ i j, x = .int i ∧ y = .int j ∧ C i j ∧ Q (g i j) H
def rI0 (g : Int → Int → V) : R2 := fun x y H Q => ∃ i j, x = .int i ∧ y = .int j ∧ Q (g i j) H
def rU (g : Int → V) : V → Hp → VK → Prop := fun x H Q => ∃ i, x = .int i ∧ Q (g i) H
section
variable {X : Cx} {a b c : Expr} {ta tb tc : TE} {pos : Pos}
theorem binT (ha : PE X a ta) (hb : PE X b tb) {pins : List (Addr × Obj)} {s : Shared} {σ : St} {H : Hp} {R : V → V → Hp → Prop} (I : Inv X pins σ H s)
    (h : ta σ H fun x H1 => tb σ H1 fun y H2 => R x y H2) {Q : Value → Shared → Prop} {f : Value → Value → Sem Value}
    (hf : ∀ v u s2 x y H2, Inv X pins σ H2 s2 → RelV x v → RelV y u → R x y H2 → wpAny (model X.prog X.w) X.A (f v u) Q X.xe s2) :
    wpAny (model X.prog X.w) X.A (eval a X.env) (fun v s₁ => wpAny (model X.prog X.w) X.A (eval b X.env) (fun u s₂ => wpAny (model X.prog X.w) X.A (f v u) Q X.xe s₂) X.xe s₁) X.xe s := by
  refine thn (ha pins s σ H _ I h) fun v s1 ⟨x, H1, I1, r1, q1⟩ => ?_
  refine thn (hb pins s1 σ H1 _ I1 q1) fun u s2 ⟨y, H2, I2, r2, q2⟩ => ?_
  exact hf v u s2 x y H2 I2 r1 r2 q2
theorem pe_op {op : Operator} {r : R2} (ho : OpR X (binaryOp op) r) (ha : PE X a ta) (hb : PE X b tb) : PE X (.BinOp a op b pos) (tOp r ta tb) := by
  intro pins s σ H Q I h
  exact wpAny_BinOp (binT ha hb I h fun v u s2 x y H2 I2 rx ry q => ho pins s2 σ H2 x y v u Q I2 rx ry q)
theorem pe_un {op : UnaryOp} {r : V → Hp → VK → Prop} (ho : UnR X (unaryOp op) r) (ha : PE X a ta) : PE X (.UnaryOp op a pos) (tUn r ta) := by
  intro pins s σ H Q I h
  exact UnaryOp_ (thn (ha pins s σ H _ I h) fun v s1 ⟨x, H1, I1, r1, q1⟩ => ho pins s1 σ H1 x v Q I1 r1 q1)
theorem opI {f : Value → Value → Sem Value} {C : Int → Int → Prop} {g : Int → Int → Int}
    (rule : ∀ (i j : Int) (t u : Tok) (s : Shared) (Q : Value → Shared → Prop) (E : Value → Shared → Prop), C i j → Q (.int (g i j) s.toks) { s with toks := s.toks + 1 } → wpAny (model X.prog X.w) X.A (f (.int i t) (.int j u)) Q E s) :
    OpR X f (rI C fun i j => .int (g i j)) := by
  intro pins s σ H x y v u Q I rx ry h
  obtain ⟨i, j, rfl, rfl, hc, q⟩ := h
  obtain ⟨t, rfl⟩ := rx
  obtain ⟨t', rfl⟩ := ry
  exact rule i j t t' s _ _ hc ⟨.int (g i j), H, I.tok _, ⟨_, rfl⟩, q⟩
theorem opI0 {f : Value → Value → Sem Value} {g : Int → Int → Int}
    (rule : ∀ (i j : Int) (t u : Tok) (s : Shared) (Q : Value → Shared → Prop) (E : Value → Shared → Prop), Q (.int (g i j) s.toks) { s with toks := s.toks + 1 } → wpAny (model X.prog X.w) X.A (f (.int i t) (.int j u)) Q E s) :
    OpR X f (rI0 fun i j => .int (g i j)) := by
  intro pins s σ H x y v u Q I rx ry h
  obtain ⟨i, j, rfl, rfl, q⟩ := h
  obtain ⟨t, rfl⟩ := rx
  obtain ⟨t', rfl⟩ := ry
  exact rule i j t t' s _ _ ⟨.int (g i j), H, I.tok _, ⟨_, rfl⟩, q⟩
theorem opB0 {f : Value → Value → Sem Value} {g : Int → Int → Bool}
    (rule : ∀ (i j : Int) (t u : Tok) (s : Shared) (Q : Value → Shared → Prop) (E : Value → Shared → Prop), Q (.bool (g i j)) s → wpAny (model X.prog X.w) X.A (f (.int i t) (.int j u)) Q E s) :
    OpR X f (rI0 fun i j => .bl (g i j)) := by
  intro pins s σ H x y v u Q I rx ry h
  obtain ⟨i, j, rfl, rfl, q⟩ := h
  obtain ⟨t, rfl⟩ := rx
  obtain ⟨t', rfl⟩ := ry
  exact rule i j t t' s _ _ ⟨.bl (g i j), H, I, rfl, q⟩
def CPow (i j : Int) : Prop := 0 ≤ j ∧ j ≤ 1000000 ∧ i.natAbs < 2 ^ 64
def CMul (i j : Int) : Prop := (-(2 ^ 64) < i ∧ i < 2 ^ 64) ∨ (-(2 ^ 64) < j ∧ j < 2 ^ 64)
theorem CMul.ok {i j : Int} (h : CMul i j) : IntMulOk i j := by
  rcases h with ⟨h1, h2⟩ | ⟨h1, h2⟩
  · exact .of_left (intBits_le_64 h1 h2)
  · exact .of_right (intBits_le_64 h1 h2)
theorem op_add : OpR X (binaryOp .Add) (rI0 fun i j => .int (i + j)) := opI0 fun _ _ _ _ _ _ _ q => add_int q
theorem op_sub : OpR X (binaryOp .Sub) (rI0 fun i j => .int (i - j)) := opI0 fun _ _ _ _ _ _ _ q => sub_int q
theorem op_mul : OpR X (binaryOp .Mult) (rI CMul fun i j => .int (i * j)) := opI fun _ _ _ _ _ _ _ hc q => mul_int q hc.ok
theorem op_mod : OpR X (binaryOp .Mod) (rI (fun _ j => 0 < j) fun i j => .int (i % j)) := opI fun i j _ _ _ _ _ hc q => by
  have h1 : (0 : Int) < j := hc
  exact mod_int' (by omega) (by rw [Int.fmod_eq_emod_of_nonneg i (by omega)]; exact q)
theorem op_pow : OpR X (binaryOp .Pow) (rI CPow fun i j => .int (i ^ j.toNat)) := opI fun _ _ _ _ _ _ _ hc q => pow_int_small hc.1 hc.2.1 hc.2.2 q
theorem unI {f : Value → Sem Value} {g : Int → Int}
    (rule : ∀ (i : Int) (t : Tok) (s : Shared) (Q : Value → Shared → Prop) (E : Value → Shared → Prop), Q (.int (g i) s.toks) { s with toks := s.toks + 1 } → wpAny (model X.prog X.w) X.A (f (.int i t)) Q E s) :
    UnR X f (rU fun i => .int (g i)) := by
  intro pins s σ H x v Q I rx h
  obtain ⟨i, rfl, q⟩ := h
  obtain ⟨t, rfl⟩ := rx
  exact rule i t s _ _ ⟨.int (g i), H, I.tok _, ⟨_, rfl⟩, q⟩
theorem un_neg : UnR X (unaryOp .USub) (rU fun i => .int (-i)) := unI fun _ _ _ _ _ q => neg_int q
end
def scal : V → V → Bool
  | .non, .non => true | .non, .int _ => true | .int _, .non => true | .non, .bl _ => true | .bl _, .non => true | .non, .str _ => true | .str _, .non => true
  | .int _, .int _ => true | .bl _, .bl _ => true | .str _, .str _ => true | .byt _, .byt _ => true
  | .int _, .str _ => true | .str _, .int _ => true | .bl _, .str _ => true | .str _, .bl _ => true
  | _, _ => false
def rEq : R2 := fun x y H Q => scal x y = true ∧ Q (.bl (decide (x = y))) H
def rNe : R2 := fun x y H Q => scal x y = true ∧ Q (.bl (!decide (x = y))) H
theorem dec_int {i j : Int} : decide (V.int i = V.int j) = (i == j) := by
  rw [Bool.eq_iff_iff]
  simp
theorem dec_bl {i j : Bool} : decide (V.bl i = V.bl j) = (i == j) := by
  rw [Bool.eq_iff_iff]
  simp
theorem dec_str {i j : Str} : decide (V.str i = V.str j) = (i == j) := by
  rw [Bool.eq_iff_iff]
  simp
theorem dec_byt {i j : Array UInt8} : decide (V.byt i = V.byt j) = (i.toList == j.toList) := by
  rw [Bool.eq_iff_iff]
  cases i
  cases j
  simp
section
variable {X : Cx} {a b c : Expr} {ta tb tc : TE} {pos : Pos}
theorem fin_bl {pins : List (Addr × Obj)} {σ : St} {H : Hp} {s : Shared} {Q : VK} {k k' : Bool} (I : Inv X pins σ H s) (q : Q (.bl k) H) (e : k = k') : EP X pins σ Q (.bool k') s := by
  subst e
  exact ⟨.bl k, H, I, rfl, q⟩
theorem op_eq : OpR X (compareOp .Eq) rEq := by
  intro pins s σ H x y v u Q I rx ry h
  obtain ⟨hs, q⟩ := h
  cases x with
  | non =>
    cases rx
    cases y with
    | non => cases ry; exact PySem.EqNone.eq_none_none (fin_bl I q (by simp))
    | bl j => cases ry; exact PySem.EqNone.eq_none_bool (fin_bl I q (by simp))
    | int j => obtain ⟨t', rfl⟩ := ry; exact PySem.EqNone.eq_none_int (fin_bl I q (by simp))
    | str j => obtain ⟨t', rfl⟩ := ry; exact PySem.EqNone.eq_none_str (fin_bl I q (by simp))
    | _ => exact absurd (show false = true from hs) Bool.false_ne_true
  | bl i =>
    cases rx
    cases y with
    | non => cases ry; exact PySem.EqNone.eq_bool_none (fin_bl I q (by simp))
    | bl j => cases ry; exact eq_bool (fin_bl I q dec_bl)
    | str j => obtain ⟨t', rfl⟩ := ry; exact PySem.EqMixed.eq_bool_str (fin_bl I q (by simp))
    | _ => exact absurd (show false = true from hs) Bool.false_ne_true
  | int i =>
    obtain ⟨t, rfl⟩ := rx
    cases y with
    | non => cases ry; exact PySem.EqNone.eq_int_none (fin_bl I q (by simp))
    | int j => obtain ⟨t', rfl⟩ := ry; exact eq_int (fin_bl I q dec_int)
    | str j => obtain ⟨t', rfl⟩ := ry; exact PySem.EqMixed.eq_int_str (fin_bl I q (by simp))
    | _ => exact absurd (show false = true from hs) Bool.false_ne_true
  | str i =>
    obtain ⟨t, rfl⟩ := rx
    cases y with
    | non => cases ry; exact PySem.EqNone.eq_str_none (fin_bl I q (by simp))
    | bl j => cases ry; exact PySem.EqMixed.eq_str_bool (fin_bl I q (by simp))
    | int j => obtain ⟨t', rfl⟩ := ry; exact PySem.EqMixed.eq_str_int (fin_bl I q (by simp))
    | str j => obtain ⟨t', rfl⟩ := ry; exact eq_str (fin_bl I q dec_str)
    | _ => exact absurd (show false = true from hs) Bool.false_ne_true
  | byt i =>
    obtain ⟨t, rfl⟩ := rx
    cases y with
    | byt j => obtain ⟨t', rfl⟩ := ry; exact PySem.W.eq_bytes (fin_bl I q dec_byt)
    | _ => exact absurd (show false = true from hs) Bool.false_ne_true
  | _ => cases y <;> exact absurd (show false = true from hs) Bool.false_ne_true
theorem op_ne : OpR X (compareOp .NotEq) rNe := by
  intro pins s σ H x y v u Q I rx ry h
  obtain ⟨hs, q⟩ := h
  cases x with
  | non =>
    cases rx
    cases y with
    | non => cases ry; exact PySem.EqNone.ne_none_none (fin_bl I q (by simp))
    | bl j => cases ry; exact PySem.EqNone.ne_none_bool (fin_bl I q (by simp))
    | int j => obtain ⟨t', rfl⟩ := ry; exact PySem.EqNone.ne_none_int (fin_bl I q (by simp))
    | str j => obtain ⟨t', rfl⟩ := ry; exact PySem.EqNone.ne_none_str (fin_bl I q (by simp))
    | _ => exact absurd (show false = true from hs) Bool.false_ne_true
  | bl i =>
    cases rx
    cases y with
    | non => cases ry; exact PySem.EqNone.ne_bool_none (fin_bl I q (by simp))
    | bl j => cases ry; exact ne_bool (fin_bl I q (congrArg not dec_bl))
    | str j => obtain ⟨t', rfl⟩ := ry; exact PySem.EqMixed.ne_bool_str (fin_bl I q (by simp))
    | _ => exact absurd (show false = true from hs) Bool.false_ne_true
  | int i =>
    obtain ⟨t, rfl⟩ := rx
    cases y with
    | non => cases ry; exact PySem.EqNone.ne_int_none (fin_bl I q (by simp))
    | int j => obtain ⟨t', rfl⟩ := ry; exact ne_int (fin_bl I q (congrArg not dec_int))
    | str j => obtain ⟨t', rfl⟩ := ry; exact PySem.EqMixed.ne_int_str (fin_bl I q (by simp))
    | _ => exact absurd (show false = true from hs) Bool.false_ne_true
  | str i =>
    obtain ⟨t, rfl⟩ := rx
    cases y with
    | non => cases ry; exact PySem.EqNone.ne_str_none (fin_bl I q (by simp))
    | bl j => cases ry; exact PySem.EqMixed.ne_str_bool (fin_bl I q (by simp))
    | int j => obtain ⟨t', rfl⟩ := ry; exact PySem.EqMixed.ne_str_int (fin_bl I q (by simp))
    | str j => obtain ⟨t', rfl⟩ := ry; exact ne_str (fin_bl I q (congrArg not dec_str))
    | _ => exact absurd (show false = true from hs) Bool.false_ne_true
  | byt i =>
    obtain ⟨t, rfl⟩ := rx
    cases y with
    | byt j => obtain ⟨t', rfl⟩ := ry; exact PySem.W.ne_bytes (fin_bl I q (congrArg not dec_byt))
    | _ => exact absurd (show false = true from hs) Bool.false_ne_true
  | _ => cases y <;> exact absurd (show false = true from hs) Bool.false_ne_true
theorem op_lt : OpR X (compareOp .Lt) (rI0 fun i j => .bl (decide (i < j))) := opB0 fun _ _ _ _ _ _ _ q => lt_int q
theorem op_le : OpR X (compareOp .LtE) (rI0 fun i j => .bl (decide (i ≤ j))) := opB0 fun _ _ _ _ _ _ _ q => le_int q
theorem op_gt : OpR X (compareOp .Gt) (rI0 fun i j => .bl (decide (j < i))) := opB0 fun _ _ _ _ _ _ _ q => gt_int q
theorem op_ge : OpR X (compareOp .GtE) (rI0 fun i j => .bl (decide (j ≤ i))) := opB0 fun _ _ _ _ _ _ _ q => ge_int q
theorem nomark (b : Expr) {op : CmpOp} (h : op ≠ .In := by decide) (h2 : op ≠ .NotIn := by decide) : behindInMarks op b = false := by
  have e1 : (op == CmpOp.In) = false := by cases op <;> first | rfl | exact absurd rfl h
  have e2 : (op == CmpOp.NotIn) = false := by cases op <;> first | rfl | exact absurd rfl h2
  cases b <;> simp [behindInMarks, e1, e2]
theorem pe_cmpR {op : CmpOp} {r : R2} (ho : OpR X (compareOp op) r) (ha : PE X a ta) (hb : PE X b tb) (hm : behindInMarks op b = false) : PE X (.Compare a [op] [b] pos) (tOp r ta tb) := by
  intro pins s σ H Q I h
  exact wpAny_Compare1 (binT ha hb I h fun v u s2 x y H2 I2 rx ry q => ho pins s2 σ H2 x y v u Q I2 rx ry q) hm
def tTest (t : TE) : TT := fun σ H Q => t σ H fun x H' => ∃ k, x = .bl k ∧ Q k H'
theorem pt_cmpR {op : CmpOp} {r : R2} (ho : OpR X (compareOp op) r) (ha : PE X a ta) (hb : PE X b tb) (hm : behindInMarks op b = false) : PT X (.Compare a [op] [b] pos) (tTest (tOp r ta tb)) := by
  intro pins s σ H Q I h
  refine wpAny_isTrue_Compare1 (thn (ha pins s σ H _ I h) fun v s1 ⟨x, H1, I1, r1, q1⟩ => thn (hb pins s1 σ H1 _ I1 q1) fun u s2 ⟨y, H2, I2, r2, q2⟩ =>
    thn (ho pins s2 σ H2 x y v u _ I2 r1 r2 q2) fun c s3 ⟨z, H3, I3, r3, k, e, q3⟩ => ?_) hm
  subst e
  cases r3
  exact wpAny_truthy_bool ⟨H3, I3, q3⟩
def tChain (r r' : R2) (ta tb tc : TE) : TE := fun σ H Q => ta σ H fun x H1 => tb σ H1 fun y H2 => r x y H2 fun z H3 => ∃ k, z = .bl k ∧
  (if k = true then tc σ H3 fun w' H4 => r' y w' H4 Q else Q (.bl false) H3)
theorem pe_chain {op op' : CmpOp} {r r' : R2} (ho : OpR X (compareOp op) r) (ho' : OpR X (compareOp op') r') (ha : PE X a ta) (hb : PE X b tb) (hc : PE X c tc)
    (hm : lastMarks [op, op'] [b, c] = false := by with_unfolding_all rfl) : PE X (.Compare a [op, op'] [b, c] pos) (tChain r r' ta tb tc) := by
  intro pins s σ H Q I h
  refine Compare_chain (thn (ha pins s σ H _ I h) fun v s1 ⟨x, H1, I1, r1, q1⟩ => chain_link (thn (hb pins s1 σ H1 _ I1 q1) fun u s2 ⟨y, H2, I2, r2, q2⟩ =>
    thn (ho pins s2 σ H2 x y v u _ I2 r1 r2 q2) fun d s3 ⟨z, H3, I3, r3, k, e, q3⟩ => ?_)) hm
  subst e
  cases r3
  refine wpAny_truthy_bool ?_
  cases k with
  | false => exact ite_ff ⟨.bl false, H3, I3, rfl, q3⟩
  | true => exact ite_tt (chain_last (thn (hc pins s3 σ H3 _ I3 q3) fun w' s4 ⟨z', H4, I4, r4, q4⟩ => ho' pins s4 σ H4 y z' u w' Q I4 r2 r4 q4))
theorem pt_chain {op op' : CmpOp} {r r' : R2} (ho : OpR X (compareOp op) r) (ho' : OpR X (compareOp op') r') (ha : PE X a ta) (hb : PE X b tb) (hc : PE X c tc)
    (hm : lastMarks [op, op'] [b, c] = false := by with_unfolding_all rfl) : PT X (.Compare a [op, op'] [b, c] pos) (tTest (tChain r r' ta tb tc)) := by
  intro pins s σ H Q I h
  refine isTrue_chain (thn (ha pins s σ H _ I h) fun v s1 ⟨x, H1, I1, r1, q1⟩ => test_link (thn (hb pins s1 σ H1 _ I1 q1) fun u s2 ⟨y, H2, I2, r2, q2⟩ =>
    thn (ho pins s2 σ H2 x y v u _ I2 r1 r2 q2) fun d s3 ⟨z, H3, I3, r3, k, e, q3⟩ => ?_)) hm
  subst e
  cases r3
  refine wpAny_truthy_bool ?_
  cases k with
  | false =>
    obtain ⟨k', e', q'⟩ := q3
    cases e'
    exact ite_ff ⟨H3, I3, q'⟩
  | true =>
    refine ite_tt (test_last (thn (hc pins s3 σ H3 _ I3 q3) fun w' s4 ⟨z', H4, I4, r4, q4⟩ => thn (ho' pins s4 σ H4 y z' u w' _ I4 r2 r4 q4) fun d' s5 ⟨z2, H5, I5, r5, k2, e2, q5⟩ => ?_))
    subst e2
    cases r5
    exact wpAny_truthy_bool ⟨H5, I5, q5⟩
theorem line63 : (sizeLine : Nat) < 2 ^ 63 := by rw [sizeLine_eq]; decide
theorem vals1 {x : V} {us : List Value} (r : Vals [x] us) : ∃ u, us = [u] ∧ RelV x u := by
  cases r with
  | cons r1 r2 => cases r2; exact ⟨_, rfl, r1⟩
theorem vals2 {x y : V} {us : List Value} (r : Vals [x, y] us) : ∃ u w', us = [u, w'] ∧ RelV x u ∧ RelV y w' := by
  cases r with
  | cons r1 r2 =>
    cases r2 with
    | cons r3 r4 => cases r4; exact ⟨_, _, rfl, r1, r3⟩
theorem call_max2 (hc : X.calm = true) : CallR X (.builtin "max") (fun xs H Q => ∃ i j, xs = [.int i, .int j] ∧ Q (.int (if j > i then j else i)) H) := by
  intro pins s σ H xs us Q I r h
  obtain ⟨i, j, rfl, q⟩ := h
  obtain ⟨u, w', rfl, ⟨t, rfl⟩, ⟨t', rfl⟩⟩ := vals2 r
  refine max_two_ints (I.ok.hd hc) fun h' tk k => ⟨_, H, I.kept k, ?_, q⟩
  by_cases hj : j > i
  · rw [if_pos hj, if_pos hj]; exact ⟨_, rfl⟩
  · rw [if_neg hj, if_neg hj]; exact ⟨_, rfl⟩
theorem call_min2 (hc : X.calm = true) : CallR X (.builtin "min") (fun xs H Q => ∃ i j, xs = [.int i, .int j] ∧ Q (.int (if j < i then j else i)) H) := by
  intro pins s σ H xs us Q I r h
  obtain ⟨i, j, rfl, q⟩ := h
  obtain ⟨u, w', rfl, ⟨t, rfl⟩, ⟨t', rfl⟩⟩ := vals2 r
  refine min_two_ints (I.ok.hd hc) fun h' tk k => ⟨_, H, I.kept k, ?_, q⟩
  by_cases hj : j < i
  · rw [if_pos hj, if_pos hj]; exact ⟨_, rfl⟩
  · rw [if_neg hj, if_neg hj]; exact ⟨_, rfl⟩
theorem call_int1 : CallR X (.type "int") (fun xs H Q => (∃ i, xs = [.int i] ∧ Q (.int i) H) ∨ ∃ k, xs = [.bl k] ∧ Q (.int (if k then 1 else 0)) H) := by
  intro pins s σ H xs us Q I r h
  rcases h with ⟨i, rfl, q⟩ | ⟨k, rfl, q⟩
  · obtain ⟨u, rfl, t, rfl⟩ := vals1 r
    exact call_int_int ⟨.int i, H, I, ⟨_, rfl⟩, q⟩
  · obtain ⟨u, rfl, r1⟩ := vals1 r
    cases r1
    exact call_int_bool ⟨.int (if k then 1 else 0), H, I.tok _, ⟨_, rfl⟩, q⟩
end
end L2
namespace L2
open PySem PySem.Spec PyProof.Rows
structure ObjM (h : Heap) (x dx C : Addr) (mA : Str → Option Value) : Prop where
  obj : h.get? x = some (PySem.W.instObj C dx)
  ns : h.Ns1 dx mA
  ne : dx ≠ x
theorem lookIn_ns {h : Heap} {dx : Addr} {mA : Str → Option Value} (n : h.Ns1 dx mA) : ∃ od, h.get? dx = some od ∧ ∀ name, PySem.W.lookIn name od = some (mA name) := by
  obtain ⟨o, es, ep, ho, hd, hk, _, hm⟩ := n
  refine ⟨o, ho, fun name => ?_⟩
  have e := hm name
  unfold nsFind findBy at e
  rw [← Array.find?_toList] at e
  unfold PySem.W.lookIn
  rw [hd]
  dsimp only
  split
  · rename_i y q
    rw [q] at e
    exact congrArg some e
  · rename_i q
    rw [q] at e
    have a : es.toList.any (·.refKey) = false := by
      rw [List.any_eq_false]
      intro y hy
      obtain ⟨z, t, hkey⟩ := hk y (Array.mem_toList_iff.mp hy)
      simp [DictEntry.refKey, hkey]
    have a' : ¬ es.toList.any (·.refKey) = true := by rw [a]; exact Bool.false_ne_true
    rw [if_neg a']
    exact congrArg some e
theorem ObjM.look {h : Heap} {x dx C : Addr} {mA : Str → Option Value} (I : ObjM h x dx C mA) : ∃ od, PySem.W.InstAt h x (PySem.W.instObj C dx) C (some od) ∧ ∀ name, PySem.W.lookIn name od = some (mA name) :=
  let ⟨od, ho, hl⟩ := lookIn_ns I.ns
  ⟨od, ⟨I.obj, rfl, rfl, ho⟩, hl⟩
section
variable {prog : Program} {w : World} {A : Around} {E : Value → Shared → Prop} {s : Shared} {K : PySem.W.Frag} {x dx C f : Addr} {mA : Str → Option Value} {name : Str} {v : Value}
end
section
variable {P : Program} {w : World} {H H' : Hp} {h h' : Heap} {a C dx : Addr} {fs fs' : List (Str × V)}
theorem ins_get (hok : HOk P w H h) (e : H a = some (.ins C dx fs)) : ∃ mA, ObjM h a dx C mA ∧ (∀ f, RelO (fs.lookup f) (mA f)) ∧ PySem.Within mA (fs.map (·.1)) ∧ fs.length ≤ 1000 ∧ H dx = some (.own a) := by
  obtain ⟨d, z, ne, ob, mA, n, r, q⟩ := (show ObjOk P w H h a (.ins C dx fs) from hok a _ e)
  exact ⟨mA, ⟨ob, n, ne⟩, r, q, z, d⟩
end
structure Cls (K : PySem.W.Frag) (C : Addr) : Prop where
  pg : PySem.W.plainGet K C Str.empty = true
  hd : PySem.W.hasDictIn K C = true
  po : PySem.W.plainOver K C = true
  sa : PySem.W.findIn K (.ref C) "__setattr__" = some (some (.builtin "object.__setattr__"))
theorem Cls.get {K : PySem.W.Frag} {C : Addr} (c : Cls K C) (f : Str) : PySem.W.plainGet K C f = true := c.pg
section
variable {X : Cx} {pins : List (Addr × Obj)} {σ : St} {H : Hp} {s : Shared} {a C dx : Addr} {fs : List (Str × V)} {f : Str} {v : V} {A : Around} {E : Value → Shared → Prop}
end
section
variable {X : Cx} {o e value : Expr} {f : Str} {pos pos' tpos : Pos} {ta tv : TE}
end
section
variable {X : Cx} {pins : List (Addr × Obj)} {σ : St} {H : Hp} {s : Shared} {A : Around} {E : Value → Shared → Prop} {Q : Value → Shared → Prop} {c : Value} {b : Bool}
inductive TyOf (K : PySem.W.Frag) (H : Hp) : V → Value → Prop where
  | non : TyOf K H .non (.type "NoneType")
  | bl (x : Bool) : TyOf K H (.bl x) (.type "bool")
  | int (i : Int) : TyOf K H (.int i) (.type "int")
  | str (x : Str) : TyOf K H (.str x) (.type "str")
  | flt (x : UInt64) : TyOf K H (.flt x) (.type "float")
  | lst {a : Addr} {xs : List V} (e : H a = some (.lst xs)) : TyOf K H (.ref a) (.type "list")
  | frz {a : Addr} {o : Obj} {xs : List V} (e : H a = some (.frz o (.lst xs))) : TyOf K H (.ref a) (.type "list")
  | tup {a : Addr} {xs : List V} (e : H a = some (.tup xs)) : TyOf K H (.ref a) (.type "tuple")
  | dK {a : Addr} {kvs : List (Key × V)} (e : H a = some (.dK kvs)) : TyOf K H (.ref a) (.type "dict")
  | dT {a : Addr} {kvs : List (List Key × V)} (e : H a = some (.dT kvs)) : TyOf K H (.ref a) (.type "dict")
  | ins {a C dx : Addr} {fs : List (Str × V)} (e : H a = some (.ins C dx fs)) (cl : Cls K C) (ha : PySem.W.findIn K (.ref C) "__class__" = some (some (.builtin "object.__class__")))
      (hn : PySem.W.specialIn K (.builtin "object.__class__") "__get__" = some (some (.builtin "getset_descriptor.__get__"))) (htk : PySem.W.takesIn K (.builtin "object.__class__") = some true)
      (hm : PySem.W.mroIn K C (.type "object") = some true) : TyOf K H (.ref a) (.ref C)
theorem isinst_ok {x : V} {u t : Value} (I : Inv X pins σ H s) (rx : RelV x u) (ty : TyOf X.K H x t) (e : PySem.W.kitOne X.K t c = some b) (h : ∀ tk, Q (.bool b) { s with toks := tk }) :
    wpAny (model X.prog X.w) A (call (.builtin "isinstance") [u, c]) Q E s := by
  cases ty with
  | non => cases (show u = Value.none from rx); exact PySem.W.kia_one PySem.W.kitx_none I.kIn True.intro e (fun z => nomatch z) h
  | bl y => cases (show u = Value.bool y from rx); exact PySem.W.kia_one PySem.W.kitx_bool I.kIn True.intro e (fun z => nomatch z) h
  | int i => obtain ⟨t, q⟩ := (show ∃ t, u = Value.int i t from rx); cases q; exact PySem.W.kia_one PySem.W.kitx_int I.kIn True.intro e (fun z => nomatch z) h
  | str y => obtain ⟨t, q⟩ := (show ∃ t, u = Value.str y t from rx); cases q; exact PySem.W.kia_one PySem.W.kitx_str I.kIn True.intro e (fun z => nomatch z) h
  | flt y => obtain ⟨t, q⟩ := (show ∃ t, u = Value.float y t from rx); cases q; exact PySem.W.kia_one PySem.W.kitx_float I.kIn True.intro e (fun z => nomatch z) h
  | @lst a xs ea =>
    cases (show u = Value.ref a from rx)
    obtain ⟨_, _, n, _, h1⟩ := (show ObjOk X.prog X.w H s.heap a (.lst xs) from I.hok a _ ea)
    exact PySem.W.kia_one PySem.W.kitx_list I.kIn ⟨_, h1, rfl⟩ e (fun z => nomatch z) h
  | @frz a ob xs ea =>
    cases (show u = Value.ref a from rx)
    obtain ⟨_, _, _, n, _, h1⟩ := (show ObjOk X.prog X.w H s.heap a (.frz ob (.lst xs)) from I.hok a _ ea)
    exact PySem.W.kia_one PySem.W.kitx_list I.kIn ⟨_, h1, rfl⟩ e (fun z => nomatch z) h
  | @tup a xs ea =>
    cases (show u = Value.ref a from rx)
    obtain ⟨_, _, _, p⟩ := (show ObjOk X.prog X.w H s.heap a (.tup xs) from I.hok a _ ea)
    obtain ⟨o, h1, h2, _⟩ := p
    exact PySem.W.kia_one PySem.W.kitx_tuple I.kIn ⟨o, h1, h2⟩ e (fun z => nomatch z) h
  | @dK a kvs ea =>
    cases (show u = Value.ref a from rx)
    obtain ⟨_, _, vs, _, p⟩ := (show ObjOk X.prog X.w H s.heap a (.dK kvs) from I.hok a _ ea)
    obtain ⟨o, es, ep, h1, h2, _⟩ := p
    exact PySem.W.kia_one PySem.W.kitx_dict I.kIn ⟨o, h1, h2.1⟩ e (fun z => nomatch z) h
  | @dT a kvs ea =>
    cases (show u = Value.ref a from rx)
    obtain ⟨_, _, xs, _, o, es, ep, h1, h2, _⟩ := (show ObjOk X.prog X.w H s.heap a (.dT kvs) from I.hok a _ ea)
    exact PySem.W.kia_one PySem.W.kitx_dict I.kIn ⟨o, h1, h2.1⟩ e (fun z => nomatch z) h
  | @ins a C dx fs ea cl ha hn htk hm =>
    cases (show u = Value.ref a from rx)
    obtain ⟨mA, O, _⟩ := ins_get I.hok ea
    obtain ⟨od, J, _⟩ := O.look
    exact PySem.W.kia_one (PySem.W.kitx_own (cl.get _) cl.hd ha hn htk hm) I.kIn J e (fun z => nomatch z) h
end
end L2
namespace L2
open PySem PySem.Spec PyProof.Rows
structure Room (k : Nat) (A : Around) : Prop where
  hd : A.handled = none
  dp : A.depth + 3 * k + 5 < recursionLimit
  un : A.units + 16 * k + 200 < cLine
  gd : A.guards = some []
theorem Room.mono {j k : Nat} {A : Around} (r : Room k A) (h : j ≤ k) : Room j A := ⟨r.hd, by have := r.dp; omega, by have := r.un; omega, r.gd⟩
theorem Room.deeper {k : Nat} {A : Around} (r : Room (k + 1) A) (env : Env) : Room k (A.deeper env) :=
  ⟨r.hd, by have := r.dp; show A.depth + 1 + 3 * k + 5 < _; omega, by have := r.un; show A.units + 3 + 16 * k + 200 < _; omega, r.gd⟩
theorem Room.in1 {k : Nat} {A : Around} (r : Room (k + 1) A) : Room k A.in1 :=
  ⟨r.hd, by have := r.dp; show A.depth + 3 * k + 5 < _; omega, by have := r.un; show A.units + 1 + 16 * k + 200 < _; omega, r.gd⟩
theorem Room.depth {k : Nat} {A : Around} (r : Room k A) : A.depth < recursionLimit := by have := r.dp; omega
theorem Room.units {k : Nat} {A : Around} (r : Room k A) : A.units + 64 < cLine := by have := r.un; omega
def tNil : TA := fun _ H Q => Q [] H
def tCons (ta : TE) (tr : TA) : TA := fun σ H Q => ta σ H fun x H1 => tr σ H1 fun xs H2 => Q (x :: xs) H2
section
variable {X : Cx} {e : Expr} {es : List Expr} {te : TE} {t : TA} {pos : Pos}
theorem pa_nil : PA X [] tNil := fun _ _ _ _ H Q I h => Calls.spliced_nil ⟨[], H, I, .nil, h⟩
theorem pa_cons (ha : PE X e te) (hr : PA X es t) (hs : starEach (e :: es) X.env = (false, eval e X.env) :: starEach es X.env := by rfl) : PA X (e :: es) (tCons te t) := by
  intro pos pins s σ H Q I h
  rw [hs]
  show wpAny _ _ (spliced ((false, eval e X.env) :: backTo pos (starEach es X.env))) _ _ s
  refine Calls.spliced_cons (thn (ha pins s σ H _ I h) fun u s1 ⟨x, H1, I1, r1, q1⟩ => ?_)
  exact thn (hr pos pins s1 σ H1 _ I1 q1) fun us s2 ⟨xs, H2, I2, r2, q2⟩ => ⟨x :: xs, H2, I2, .cons r1 r2, q2⟩
def tTup (t : TA) : TE := fun σ H Q => t σ H fun xs H1 => xs.length ≤ sizeLine ∧ ∀ p, H1 p = none → Q (.ref p) (upd H1 p (.tup xs))
def tLst (t : TA) : TE := fun σ H Q => t σ H fun xs H1 => xs.length ≤ sizeLine ∧ ∀ p, H1 p = none → Q (.ref p) (upd H1 p (.lst xs))
theorem pe_tup {x1} (h : PA X es t) : PE X (.Tuple es x1 pos) (tTup t) := by
  intro pins s σ H Q I hq
  refine wpAny_Tuple_spliced (thn (h pos pins s σ H _ I hq) fun us s1 ⟨xs, H1, I1, r, z, q⟩ => ⟨by rw [← r.length]; exact z, ?_⟩)
  have hf : H1 s1.heap.objs.size = none := I1.hok.fresh (Nat.le_refl _)
  refine ⟨.ref s1.heap.objs.size, upd H1 s1.heap.objs.size (.tup xs), I1.laid (t' := s1.toks) (fun b u e => Heap.get?_push_of_some _ e) (Nat.le_refl _) ?_, rfl, q _ hf⟩
  exact ⟨⟨z, new_bare⟩, us, r, ⟨_, Heap.get?_push_size _ rfl, rfl, _, rfl⟩⟩
theorem pe_lst (h : PA X es t) : PE X (.List es pos) (tLst t) := by
  intro pins s σ H Q I hq
  refine wpAny_List_spliced (thn (h pos pins s σ H _ I hq) fun us s1 ⟨xs, H1, I1, r, z, q⟩ => ⟨by rw [← r.length]; exact z, ?_⟩)
  have hf : H1 s1.heap.objs.size = none := I1.hok.fresh (Nat.le_refl _)
  refine ⟨.ref s1.heap.objs.size, upd H1 s1.heap.objs.size (.lst xs), I1.laid (t' := s1.toks) (fun b u e => Heap.get?_push_of_some _ e) (Nat.le_refl _) ?_, rfl, q _ hf⟩
  exact ⟨z, us, 0, r, Heap.get?_push_size _ rfl⟩
end
abbrev Sp := List V → Hp → VK → XK → Prop
abbrev CXT := List Env → Hp → Shared → XK → Value → Shared → Prop
structure Env0 (P : Program) (w : World) (K : PySem.W.Frag) (mg : Str → Option Value) (base : Heap) (A : Around) (outer : List Env) (s : Shared) (H : Hp) : Prop where
  frames : A.frames = some outer
  mod : Mod K mg base
  bs : ∀ b o, base.get? b = some o → s.heap.get? b = some o ∧ H b = none
  bsz : base.objs.size ≤ s.heap.objs.size
  funs : s.heap.FunFrames base outer
  frf : ∀ b ∈ frs outer, H b = none
  hok : HOk P w H s.heap
  bare : AllBare s.gens
def CE (outer : List Env) (P : Program) (w : World) (H : Hp) (s : Shared) (Q : VK) (u : Value) (s' : Shared) : Prop :=
  ∃ v H', s'.os = s.os ∧ AllBare s'.gens ∧ Un (frs outer) [] H H' s.heap s'.heap ∧ HOk P w H' s'.heap ∧ RelV v u ∧ Q v H'
def CR (CX : CXT) (outer : List Env) (P : Program) (w : World) (H : Hp) (s : Shared) (Q : VK) (E : XK) (r : Result) (s' : Shared) : Prop :=
  match r with
  | .ok (.ret u) => CE outer P w H s Q u s'
  | .ok _ => False
  | .error e => CX outer H s E e s'
structure FnOk (P : Program) (w : World) (K : PySem.W.Frag) (mg : Str → Option Value) (base : Heap) (CX : CXT) (k : Nat) (f : Addr) (fd : FuncData) (ps : List Str) (sp : Sp) : Prop where
  len : ∀ vs H Q E, sp vs H Q E → vs.length = ps.length
  run : ∀ (A : Around) (outer : List Env) (s : Shared) (H : Hp) (args : Args) (us : List Value) (vs : List V) (Q : VK) (E : XK), Room k A → Env0 P w K mg base A outer s H → BindsTo s fd args (ps.zip us) → Vals vs us → sp vs H Q E →
    codeAny (model P w) A (.call (.ref f) args) (CR CX outer P w H s Q E) s
theorem Env0.in1 {P : Program} {w : World} {K : PySem.W.Frag} {mg : Str → Option Value} {base : Heap} {A : Around} {outer : List Env} {s : Shared} {H : Hp} (e : Env0 P w K mg base A outer s H) :
    Env0 P w K mg base A.in1 outer s H := ⟨e.frames, e.mod, e.bs, e.bsz, e.funs, e.frf, e.hok, e.bare⟩
section
variable {X : Cx} {pins : List (Addr × Obj)} {σ : St} {H : Hp} {s s' : Shared}
theorem Inv.env0 (I : Inv X pins σ H s) : Env0 X.prog X.w X.K X.mg X.base X.A X.stack s H :=
  ⟨I.ok.frames, I.ok.mod, I.bs, Nat.le_trans I.ok.bsz I.sz, I.stack, I.stkFree, I.hok, I.bare⟩
theorem Inv.after {Q : VK} {u : Value} (I : Inv X pins σ H s) (h : CE X.stack X.prog X.w H s Q u s') : EP X pins σ Q u s' := by
  obtain ⟨v, H', os, bare, un, hok, r, q⟩ := h
  obtain ⟨hh, g, d, t, os'⟩ := s'
  obtain rfl : os' = s.os := os
  exact ⟨v, H', I.call (h' := hh) (g' := g) (d' := d) (t' := t) (ch := []) un hok bare (fun b z => absurd z (by simp)), r, q⟩
end
def tCall (sp : Sp) (dvs : List V) (E : XK) (t : TA) : TE := fun σ H Q => t σ H fun vs H1 => sp (vs ++ dvs) H1 Q E
def Binds (K : PySem.W.Frag) (fd : FuncData) (ps : List Str) (ds : List Value) : Prop :=
  ∀ (s : Shared) (us : List Value), K.In s.heap → (us ++ ds).length = ps.length → BindsTo s fd ⟨us, []⟩ (ps.zip (us ++ ds))
theorem Binds.all {K : PySem.W.Frag} {fd : FuncData} {ps : List Str} (h : ∀ us : List Value, us.length = ps.length → bindArgs fd ⟨us, []⟩ = pure (ps.zip us)) : Binds K fd ps [] := fun s us _ hl => by
  rw [List.append_nil] at hl ⊢
  exact .of_eq (h us hl)
def Passes (CX : CXT) (X : Cx) (E : XK) : Prop := ∀ (pins : List (Addr × Obj)) (σ : St) (H : Hp) (s : Shared) (e : Value) (s' : Shared), Inv X pins σ H s → CX X.stack H s E e s' → X.xe e s'
section
variable {X : Cx} {CX : CXT} {k : Nat} {f C : Addr} {fd : FuncData} {ps : List Str} {sp : Sp} {dvs : List V} {ds : List Value} {E : XK} {x m : Str} {p pos apos : Pos} {e o : Expr} {es : List Expr} {ta : TE} {t : TA}
theorem run_fn {pins : List (Addr × Obj)} {σ : St} {H : Hp} {s : Shared} {Q : VK} {us : List Value} {vs : List V} (F : FnOk X.prog X.w X.K X.mg X.base CX k f fd ps sp) (hr : Room k X.A) (hb : Binds X.K fd ps ds) (hd : Vals dvs ds) (hx : Passes CX X E)
    (I : Inv X pins σ H s) (r : Vals vs us) (h : sp (vs ++ dvs) H Q E) : wpAny (model X.prog X.w) X.A (call (.ref f) us) (EP X pins σ Q) X.xe s := by
  have r2 : Vals (vs ++ dvs) (us ++ ds) := r.append hd
  have hl : (us ++ ds).length = ps.length := by rw [← r2.length]; exact F.len _ _ _ _ h
  refine wpAny_call (codeAny_mono (F.run X.A X.stack s H ⟨us, []⟩ (us ++ ds) (vs ++ dvs) Q E hr I.env0 (hb s us I.kIn hl) r2 h) fun r s' hq => ?_)
  cases r with
  | error e => exact hx pins σ H s e s' I hq
  | ok fl =>
    cases fl with
    | ret u => exact I.after hq
    | next => exact False.elim hq
    | brk => exact False.elim hq
    | cont => exact False.elim hq
theorem pe_call (F : FnOk X.prog X.w X.K X.mg X.base CX k f fd ps sp) (hr : Room k X.A) (hg : Gl X x) (hm : X.mg x = some (.ref f)) (hk : PySem.W.keepIn X.K (.ref f) = true) (hb : Binds X.K fd ps ds) (hd : Vals dvs ds) (hx : Passes CX X E)
    (ha : PA X (e :: es) t) (hdb : (x == ("__debug__" : Str)) = false := by decide) (he : starEach (e :: es) X.env = (false, eval e X.env) :: starEach es X.env := by rfl) (hpl : (backTo pos (starEach es X.env)).any (·.1) = false := by rfl) :
    PE X (.Call (.Name x p) (e :: es) [] pos) (tCall sp dvs E t) := by
  intro pins s σ H Q I h
  refine wpAny_Call_Name_kw (ld_glob I hg hm ?_ hdb)
  refine PySem.W.callWith_K (h₀ := X.base) I.ok.mod.kin hk (thn (ha pos pins s σ H _ I h) fun us s1 ⟨vs, H1, I1, r, q⟩ => ⟨I1.kIn, ?_⟩) he hpl
  exact run_fn F hr hb hd hx I1 r q
end
section
variable {X : Cx} {CX : CXT} {k : Nat} {f C : Addr} {fd : FuncData} {ps ks : List Str} {sp : Sp} {E : XK} {x m : Str} {p pos apos kpos : Pos} {e o : Expr} {es : List Expr} {kws : List Keyword} {te ta : TE} {t tk : TA} {nm : Option Str}
variable {g : List Value → List Value → List Value} {gV : List V → List V → List V}
end
structure FnScope (N P : List Str) (sc : Scope) : Prop where
  kind : sc.kind = .function
  co : sc.isCoroutine = false
  gen : sc.isGenerator = false
  nd : N.Nodup
  pre : N.take P.length = P
  par : ∀ x ∈ P, sc.names.lookup x = some .local ∨ sc.names.lookup x = some .cell
  nofree : ∀ y ∈ sc.names, y.2 ≠ .free
theorem bindL_out {kindOf : Str → Option NameKind} {x : Str} : ∀ {binds : List (Str × Value)} {m : Str → Option Value}, (∀ v, (x, v) ∉ binds) → bindL kindOf binds m x = m x
  | [], _, _ => rfl
  | (n, v) :: r, m, h => by
    unfold bindL
    rw [bindL_out fun w hw => h w (List.mem_cons_of_mem _ hw)]
    split
    · have : x ≠ n := by rintro rfl; exact h v List.mem_cons_self
      simp [this]
    · rfl
theorem bindC_out {kindOf : Str → Option NameKind} {x : Str} : ∀ {binds : List (Str × Value)} {m : Str → Option Value}, (∀ v, (x, v) ∉ binds) → bindC kindOf binds m x = m x
  | [], _, _ => rfl
  | (n, v) :: r, m, h => by
    unfold bindC
    rw [bindC_out fun w hw => h w (List.mem_cons_of_mem _ hw)]
    split
    · rfl
    · have : x ≠ n := by rintro rfl; exact h v List.mem_cons_self
      simp [this]
theorem bindL_get {kindOf : Str → Option NameKind} {x : Str} {v : Value} : ∀ {P : List Str} {vs : List Value} {i : Nat} {m : Str → Option Value}, P.Nodup → P[i]? = some x → vs[i]? = some v → kindOf x = some .local →
    bindL kindOf (P.zip vs) m x = some v
  | [], _, _, _, _, h, _, _ => by simp at h
  | _ :: _, [], _, _, _, _, h, _ => by simp at h
  | p :: P, w :: vs, 0, m, nd, h1, h2, hk => by
    simp at h1 h2; subst h1; subst h2
    show bindL kindOf ((p, w) :: P.zip vs) m p = _
    unfold bindL
    rw [bindL_out fun v hv => (List.nodup_cons.mp nd).1 (List.of_mem_zip hv).1, if_pos hk]
    simp
  | p :: P, w :: vs, i + 1, m, nd, h1, h2, hk => by
    show bindL kindOf ((p, w) :: P.zip vs) m x = _
    unfold bindL
    exact bindL_get (i := i) (List.nodup_cons.mp nd).2 (by simpa using h1) (by simpa using h2) hk
theorem bindC_get {kindOf : Str → Option NameKind} {x : Str} {v : Value} : ∀ {P : List Str} {vs : List Value} {i : Nat} {m : Str → Option Value}, P.Nodup → P[i]? = some x → vs[i]? = some v → kindOf x ≠ some .local →
    bindC kindOf (P.zip vs) m x = some v
  | [], _, _, _, _, h, _, _ => by simp at h
  | _ :: _, [], _, _, _, _, h, _ => by simp at h
  | p :: P, w :: vs, 0, m, nd, h1, h2, hk => by
    simp at h1 h2; subst h1; subst h2
    show bindC kindOf ((p, w) :: P.zip vs) m p = _
    unfold bindC
    rw [bindC_out fun v hv => (List.nodup_cons.mp nd).1 (List.of_mem_zip hv).1, if_neg hk]
    simp
  | p :: P, w :: vs, i + 1, m, nd, h1, h2, hk => by
    show bindC kindOf ((p, w) :: P.zip vs) m x = _
    unfold bindC
    exact bindC_get (i := i) (List.nodup_cons.mp nd).2 (by simpa using h1) (by simpa using h2) hk
def start (N : List Str) (vs : List V) : St := vs.map some ++ List.replicate (N.length - vs.length) none
def cxOf (CX : CXT) (P : Program) (w : World) (K : PySem.W.Frag) (mg : Str → Option Value) (base : Heap) (N : List Str) (qual : Str) (scope : Scope) (f : Addr) (cd : Value) (A : Around) (outer : List Env) (s : Shared) (H : Hp) (E : XK) : Cx where
  prog := P
  w := w
  K := K
  mg := mg
  base := base
  A := A.deeper (envOfC qual scope s.heap.objs.size f cd)
  N := N
  s₀ := s
  H₀ := H
  env := envOfC qual scope s.heap.objs.size f cd
  outer := outer
  stack := envOfC qual scope s.heap.objs.size f cd :: outer
  ex := []
  calm := true
  fn := fun _ => true
  pn := []
  xe := fun e s' => wpAny (model P w) (A.deeper (envOfC qual scope s.heap.objs.size f cd)) (leaving (envOfC qual scope s.heap.objs.size f cd) e) (fun _ s'' => CX outer H s E e s'') (fun e' s'' => CX outer H s E e' s'') s'
theorem cell_has {sc : Scope} {n : Nat} {x : Str} (h : sc.names.lookup x = some .cell) : ∃ c, (cellsFrom n sc.names []).lookup x = some c := by
  have q := PySem.W.cellsFrom_some sc.names n [] (.inl h)
  exact Option.isSome_iff_exists.mp q
theorem inv_start {CX : CXT} {P : Program} {w : World} {K : PySem.W.Frag} {mg : Str → Option Value} {base : Heap} {N ps : List Str} {qual : Str} {scope : Scope} {f : Addr} {cd : Value} {A : Around} {outer : List Env} {s s1 : Shared} {H : Hp} {E : XK} {us : List Value} {vs : List V}
    (S : FnScope N ps scope) (hd : A.handled = none) (e0 : Env0 P w K mg base A outer s H) (hl : vs.length = ps.length) (r : Vals vs us)
    (x : InCallC s s.heap.objs.size (bindL (envOfC qual scope s.heap.objs.size f cd).kindOf (ps.zip us) fun _ => none) (cellsFrom (s.heap.objs.size + 1) scope.names []) (bindC (envOfC qual scope s.heap.objs.size f cd).kindOf (ps.zip us) fun _ => none) s1) :
    Inv (cxOf CX P w K mg base N qual scope f cd A outer s H E) [] (start N vs) H s1 := by
  have hpl : ps.length ≤ N.length := by have := congrArg List.length S.pre; rw [List.length_take] at this; omega
  obtain ⟨h1, tk, rfl, hk⟩ := x.done
  have noA : ∀ b : Addr, b ∉ (cxOf CX P w K mg base N qual scope f cd A outer s H E).ex := fun b z => absurd (show b ∈ ([] : List Addr) from z) (by simp)
  refine ⟨⟨e0.mod, S.kind, rfl, rfl, Nat.le_refl _, fun y z c h1 h2 => ?_, fun y hy => ?_, fun y c _ h => ?_, fun _ => hd, Around.frames_deeper e0.frames, .inr ⟨rfl, rfl⟩, fun b z => absurd z (noA b), e0.bs, e0.bsz, fun b _ _ => noA b, fun b z => absurd z (noA b), e0.funs, e0.frf⟩,
    rfl, e0.bare, Un.kept hk, ⟨_, x.toInCall.ns, fun i y v h1 h2 h3 => ?_⟩, fun y c h => ⟨_, x.cell y c h⟩, e0.hok.fresh (Nat.le_refl _), fun y c h => ?_, fun p hp => absurd (show p ∈ ([] : List (Addr × Obj)) from hp) (by simp), e0.hok.kept hk, ?_⟩
  · exact name_of_addr x.apart (PySem.mem_of_lookup h1) (PySem.mem_of_lookup h2)
  · have hy : scope.names.lookup y = some .cell ∨ scope.names.lookup y = some .free := hy
    rcases hy with hy | hy
    · exact cell_has hy
    · exact absurd rfl (S.nofree _ (PySem.mem_of_lookup hy))
  · exact Nat.le_of_lt (x.above y c (PySem.mem_of_lookup h))
  · have hi : i < vs.length := by
      unfold start at h2
      by_cases hi : i < vs.length
      · exact hi
      · rw [List.getElem?_append_right (by simpa using hi)] at h2
        rw [List.getElem?_replicate] at h2
        split at h2 <;> cases h2
    have ha : vs[i]? = some v := by
      unfold start at h2
      rw [List.getElem?_append_left (by simpa using hi), List.getElem?_map] at h2
      cases e : vs[i]? with
      | none => rw [e] at h2; cases h2
      | some a => rw [e] at h2; cases h2; rfl
    obtain ⟨u, hu, rv⟩ := r.get ha
    have hp : ps[i]? = some y := by
      rw [← S.pre, List.getElem?_take_of_lt (by omega)]; exact h1
    have ndP : ps.Nodup := by rw [← S.pre]; exact S.nd.sublist (List.take_sublist _ _)
    refine ⟨u, rv, ?_⟩
    rcases S.par y (List.mem_of_getElem? hp) with k | k
    · exact .inl ⟨k, bindL_get ndP hp hu k⟩
    · obtain ⟨c, e⟩ := cell_has (n := s.heap.objs.size + 1) k
      refine .inr ⟨.inl k, c, e, ?_⟩
      have q := x.cell y c e
      rw [bindC_get ndP hp hu (by show scope.names.lookup y ≠ _; rw [k]; decide)] at q
      exact q
  · exact e0.hok.fresh (Nat.le_of_lt (x.above y c (PySem.mem_of_lookup h)))
  · unfold start
    show _ = N.length
    rw [List.length_append, List.length_map, List.length_replicate]
    omega
theorem fn_of {CX : CXT} {P : Program} {w : World} {K : PySem.W.Frag} {mg : Str → Option Value} {base : Heap} {k : Nat} {f : Addr} {name qual : Str} {params : Arguments} {body : List Stmt} {scope : Scope} {dV kV doc pm cdv ct oc : Value} {an od : Option Addr}
    {osl : Array (Option Value)} {N ps : List Str} {sp : Sp} (lk : K.lookup f = some ⟨oc, od, .func (PySem.W.fnOf name qual params body scope dV kV doc pm an cdv ct), osl⟩) (hcd : PySem.W.codeIn K cdv qual = true) (S : FnScope N ps scope)
    (len : ∀ vs H Q E, sp vs H Q E → vs.length = ps.length)
    (hbody : ∀ (A : Around) (outer : List Env) (s : Shared) (H : Hp) (vs : List V) (Q : VK) (E : XK), Room k (A.deeper (envOfC qual scope s.heap.objs.size f cdv)) → sp vs H Q E →
      ∃ t, PSs (cxOf CX P w K mg base N qual scope f cdv A outer s H E) body t ∧ t { nx := fun _ H' => Q .non H', rt := Q } (start N vs) H) :
    FnOk P w K mg base CX (k + 1) f (PySem.W.fnOf name qual params body scope dV kV doc pm an cdv ct) ps sp := by
  refine ⟨len, fun A outer s H args us vs Q E hr e0 hb r hsp => ?_⟩
  have hl := len _ _ _ _ hsp
  have KX : K.In s.heap := e0.mod.kin.keeps fun b o e => (e0.bs b o e).1
  have lim : s.heap.NoLimit := e0.mod.nolimit.keeps fun b o e => (e0.bs b o e).1
  have hkind : ∀ y ∈ ps.zip us, scope.names.lookup y.1 = some .local ∨ (scope.names.lookup y.1 = some .cell ∧ ((cellsFrom (s.heap.objs.size + 1) scope.names []).lookup y.1).isSome = true) := fun ⟨n, v⟩ hy => by
    rcases S.par n (List.of_mem_zip hy).1 with q | q
    · exact .inl q
    · exact .inr ⟨q, PySem.W.cellsFrom_some _ _ _ (.inl q)⟩
  refine codeAny_call_function hr.depth (KX _ _ lk) rfl S.co S.gen rfl (PySem.W.codeRec_of KX hcd) (hb _ _ _ _ ?_)
  refine wpAny_newFunctionEnv_cells S.kind hkind fun env he s1 x => ?_
  subst he
  refine ⟨lim.keeps x.toInCall.keep, codeAny_func ?_⟩
  obtain ⟨t, ht, hq⟩ := hbody A outer s H vs Q E (hr.deeper _) hsp
  have I : Inv (cxOf CX P w K mg base N qual scope f cdv A outer s H E) [] (start N vs) H s1 := inv_start S hr.hd e0 hl r x
  refine wpAny_mono (ht [] s1 (start N vs) H _ I hq) (fun fl s' hs => ?_) fun e s' hs => hs
  have fin : ∀ {σ' : St} {H' : Hp} {v : V} {u : Value}, Inv (cxOf CX P w K mg base N qual scope f cdv A outer s H E) [] σ' H' s' → RelV v u → Q v H' → CE outer P w H s Q u s' :=
    fun {σ' H' v u} J rv q => ⟨v, H', J.os, J.bare, J.base, J.hok, rv, q⟩
  cases fl with
  | ret u =>
    obtain ⟨v, σ', H', J, rv, q⟩ := hs
    exact fin J rv q
  | next =>
    obtain ⟨σ', H', J, q⟩ := hs
    exact fin (v := V.non) (u := Value.none) J rfl q
  | brk =>
    obtain ⟨_, _, _, q⟩ := hs
    exact False.elim q
  | cont =>
    obtain ⟨_, _, _, q⟩ := hs
    exact False.elim q
end L2
namespace L2
open PySem PySem.Spec PyProof.Rows
section
variable {X : Cx} {x : Str} {p pos : Pos} {e : Expr} {es : List Expr} {t : TA} {id T : String} {r : List V → Hp → VK → Prop}
def tCB (r : List V → Hp → VK → Prop) (t : TA) : TE := fun σ H Q => t σ H fun vs H1 => r vs H1 Q
theorem pe_callB (hc : CallR X (.builtin id) r) (hg : Gl X x) (hm : X.mg x = none) (hv : bootBuiltins x = some (.builtin id)) (ha : PA X (e :: es) t) (hn : x ≠ "__name__" := by decide) (hdb : (x == ("__debug__" : Str)) = false := by decide)
    (he : starEach (e :: es) X.env = (false, eval e X.env) :: starEach es X.env := by rfl) (hpl : (backTo pos (starEach es X.env)).any (·.1) = false := by rfl) : PE X (.Call (.Name x p) (e :: es) [] pos) (tCB r t) := by
  intro pins s σ H Q I h
  refine wpAny_Call_Name_kw (ld_blt I hg hm hv ?_ hn hdb)
  exact PyProof.Rows.callWith_builtin1 (thn (ha pos pins s σ H _ I h) fun us s1 ⟨vs, H1, I1, r1, q1⟩ => hc pins s1 σ H1 vs us Q I1 r1 q1) he hpl
theorem pe_callTy (hc : CallR X (.type T) r) (hg : Gl X x) (hm : X.mg x = none) (hv : bootBuiltins x = some (.type T)) (ha : PA X (e :: es) t) (hn : x ≠ "__name__" := by decide) (hdb : (x == ("__debug__" : Str)) = false := by decide)
    (he : starEach (e :: es) X.env = (false, eval e X.env) :: starEach es X.env := by rfl) (hpl : (backTo pos (starEach es X.env)).any (·.1) = false := by rfl) : PE X (.Call (.Name x p) (e :: es) [] pos) (tCB r t) := by
  intro pins s σ H Q I h
  refine wpAny_Call_Name_kw (ld_blt I hg hm hv ?_ hn hdb)
  exact PyProof.Rows.callWith_type1 (thn (ha pos pins s σ H _ I h) fun us s1 ⟨vs, H1, I1, r1, q1⟩ => hc pins s1 σ H1 vs us Q I1 r1 q1) he hpl
theorem pe_callTy0 (hc : CallR X (.type T) r) (hg : Gl X x) (hm : X.mg x = none) (hv : bootBuiltins x = some (.type T)) (hn : x ≠ "__name__" := by decide) (hdb : (x == ("__debug__" : Str)) = false := by decide) :
    PE X (.Call (.Name x p) [] [] pos) (tCB r tNil) := by
  intro pins s σ H Q I h
  refine wpAny_Call_Name_kw (ld_blt I hg hm hv ?_ hn hdb)
  exact PyProof.Rows.callWith_type0 (hc pins s σ H [] [] Q I .nil h)
end
end L2
namespace L2
open PySem PySem.Spec PyProof.Rows
section
variable {κ : Type} [DecidableEq κ]
end
theorem kV_is {P : Program} {w : World} {k : Key} {u : Value} (r : RelV (kV k) u) : (mixKind P w).is k u = true := by
  cases k with
  | inl i => obtain ⟨t, e⟩ := (show ∃ t, u = Value.int i t from r); subst e; exact mixKind_int P w i t
  | inr x => obtain ⟨t, e⟩ := (show ∃ t, u = Value.str x t from r); subst e; exact mixKind_str P w x t
theorem items_are {P : Program} {w : World} : ∀ {ks : List Key} {us : List Value}, Vals (ks.map kV) us → ItemsAre (mixKind P w) ks us
  | [], _, r => by rw [List.map_nil] at r; cases r; exact .nil
  | k :: ks, _, r => by
    rw [List.map_cons] at r
    cases r with
    | cons h t => exact .cons (kV_is h) (items_are t)
section
variable {P : Program} {w : World} {H : Hp} {h : Heap} {a : Addr}
theorem key_of {ks : List Key} (ok : HOk P w H h) (e : H a = some (.tup (ks.map kV))) : (tupleKind (mixKind P w)).is h ks a := by
  obtain ⟨_, its, r, o, h1, h2, n, h3⟩ := (show ObjOk P w H h a (.tup (ks.map kV)) from ok a _ e)
  exact ⟨o, its.toArray, n, h1, h2, h3, by simpa using items_are r⟩
end
section
variable {X : Cx} {pins : List (Addr × Obj)} {σ : St} {H : Hp} {s : Shared} {a : Addr} {y v : V} {u r : Value} {o : Option V} {A : Around} {E : Value → Shared → Prop}
theorem Inv.big (I : Inv X pins σ H s) : sysModules < s.heap.objs.size := by
  have h : mainGlobals < s.heap.objs.size := (I.mod.glob.keeps I.bk).lt
  exact Nat.lt_trans (by decide) h
end
section
variable {X : Cx} {pins : List (Addr × Obj)} {σ : St} {H : Hp} {s : Shared} {a : Addr} {kvs : List (Key × V)} {k : Key} {u : Value} {A : Around} {E : Value → Shared → Prop}
end
section
variable {X : Cx} {o i e value : Expr} {pos pos' tpos : Pos} {td ty tv : TE}
end
theorem dk_empty {P : Program} {w : World} {H : Hp} (h : Heap) (hb : sysModules < h.objs.size) : ObjOk P w H (h.push { cls := .type "dict", data := .dict #[] }) h.objs.size (.dK []) :=
  ⟨Nat.zero_le _, beq_eq_false_iff_ne.mpr (Ne.symm (Nat.ne_of_lt hb)), [], .nil, Heap.DictOf.new h⟩
def tDNewK : TE := fun _ H Q => ∀ p, H p = none → Q (.ref p) (upd H p (.dK []))
section
variable {X : Cx} {pos : Pos}
theorem pe_dnewK : PE X (.Dict [] [] pos) tDNewK := fun pins s σ H Q I h =>
  wpAny_Dict_empty ⟨.ref s.heap.objs.size, _, I.laid (a := s.heap.objs.size) (o := .dK []) (t' := s.toks) (fun _ _ q => Heap.get?_push_of_some _ q) (Nat.le_refl _) (dk_empty s.heap I.big), rfl, h _ (I.hok.fresh (Nat.le_refl _))⟩
end
section
variable {X : Cx} {pins : List (Addr × Obj)} {σ : St} {H : Hp} {s : Shared} {a : Addr} {y d : V} {u r : Value} {o : Option V} {A : Around} {E : Value → Shared → Prop}
end
section
variable {X : Cx} {o e f : Expr} {apos cpos : Pos} {td ty tx : TE}
end
section
variable {X : Cx} {pins : List (Addr × Obj)} {σ : St} {H : Hp} {s : Shared} {a : Addr} {kvs : List (Key × V)} {A : Around} {E : Value → Shared → Prop}
end
section
variable {X : Cx} {pins : List (Addr × Obj)} {σ : St} {H : Hp} {s : Shared} {a : Addr} {y : V} {u : Value} {A : Around} {E : Value → Shared → Prop}
end
end L2
namespace HT
open PySem PyProof.Rows
section
open PySem.SeqAt
open PySem.AutoSeq1 (wpAny_loadPart')
open PySem.MeetsSeq PySem.MeetsSeq2 PySem.MeetsSeq3
end
section
variable {prog : Program} {w : World} {A : Around} {E : Value → Shared → Prop} {s : Shared}
theorem cat_tup {t b : Addr} {vs ws : List Value} {Q : Value → Shared → Prop} (ht : IsTup s.heap t vs.toArray) (hb : IsTup s.heap b ws.toArray) (hv : vs ≠ [])
    (h1 : ws = [] → Q (.ref t) s) (h2 : ws ≠ [] → Q (.ref s.heap.objs.size) { s with heap := s.heap.push { cls := .type "tuple", data := .seq (vs ++ ws).toArray } })
    (hsz : vs.length + ws.length ≤ sizeLine) : wpAny (model prog w) A (binaryOp .Add (.ref t) (.ref b)) Q E s := by
  obtain ⟨⟨cls, dd, data, sl⟩, ho, hc, n, hd⟩ := id ht
  obtain ⟨⟨cls2, dd2, data2, sl2⟩, ho2, hc2, n2, hd2⟩ := id hb
  simp only at hc hd hc2 hd2
  subst hc hd hc2 hd2
  have e : vs.toArray ++ ws.toArray = (vs ++ ws).toArray := by simp
  by_cases hw : ws = []
  · exact concat_meets ⟨_, ho, rfl⟩ ⟨_, ho2, rfl⟩ noFill_tuple_add seq_tuple_add PySem.F.slot_tuple_add PySem.F.entry_tuple_add (PySem.F.args_tuple_add_2 _ _)
      (tuple_addW1 t b vs.toArray ws.toArray n n2 dd dd2 sl sl2 (by simpa using hv) (by simp [hw])) ⟨ho, ho2, h1 hw⟩
  · refine concat_meets ⟨_, ho, rfl⟩ ⟨_, ho2, rfl⟩ noFill_tuple_add seq_tuple_add PySem.F.slot_tuple_add PySem.F.entry_tuple_add (PySem.F.args_tuple_add_2 _ _)
      (tuple_addW2 t b vs.toArray ws.toArray n n2 dd dd2 sl sl2 (by simpa using hv) (by simpa using hw) (by rw [List.size_toArray, List.size_toArray]; exact hsz)) ⟨ho, ho2, ?_⟩
    rw [e]
    exact h2 hw
def sIx (n d : Nat) : Option Int → Nat
  | none => d
  | some v => if v < 0 then (v + (n : Int)).toNat else min v.toNat n
theorem sIx_nat (n d k : Nat) : sIx n d (some (k : Int)) = min k n := by
  show (if (k : Int) < 0 then ((k : Int) + (n : Int)).toNat else min (k : Int).toNat n) = min k n
  rw [if_neg (by omega), Int.toNat_natCast]
theorem sIx_le (n d : Nat) (hd : d ≤ n) (o : Option Int) : sIx n d o ≤ n := by
  cases o with
  | none => exact hd
  | some v =>
    show (if v < 0 then (v + (n : Int)).toNat else min v.toNat n) ≤ n
    by_cases hv : v < 0
    · rw [if_pos hv]; omega
    · rw [if_neg hv]; exact Nat.min_le_right _ _
theorem clip_eq (v : Int) (n d : Nat) : (if v < 0 then max (v + (n : Int)) 0 else min v (n : Int)) = ((sIx n d (some v) : Nat) : Int) := by
  show (if v < 0 then max (v + (n : Int)) 0 else min v (n : Int)) = (((if v < 0 then (v + (n : Int)).toNat else min v.toNat n) : Nat) : Int)
  by_cases hv : v < 0
  · simp only [if_pos hv]; omega
  · simp only [if_neg hv]; omega
theorem adjust_gen (lo hi : Option Int) (n : Nat) : Builtin.Slice.sliceAdjust lo hi 1 (n : Int) = (((sIx n 0 lo : Nat) : Int), ((sIx n n hi : Nat) : Int)) := by
  have h1 : ¬ ((1 : Int) < 0) := by omega
  unfold Builtin.Slice.sliceAdjust
  simp only [h1, if_false]
  refine Prod.ext ?_ ?_
  · cases lo with
    | none => rfl
    | some v => exact clip_eq v n 0
  · cases hi with
    | none => rfl
    | some v => exact clip_eq v n n
theorem places_gen (i j : Nat) : Builtin.Slice.slicePlaces (i : Int) (j : Int) 1 = j - i := by
  unfold Builtin.Slice.slicePlaces
  have h1 : (1 : Int) > 0 := by omega
  simp only [h1, if_true, Int.ediv_one]
  split <;> omega
theorem slicePart_ {v : Value} {o : Option Int} {Q : Option Int → Shared → Prop} (p : IsPart v o) (h : Q o s) : wpAny (model prog w) A (Builtin.Slice.slicePartIndex v) Q E s := by
  cases p with
  | none => exact slicePart_none h
  | int i t => exact slicePart_int h
theorem sliceApplied_gen {sl : Addr} {vl vu : Value} {lo hi : Option Int} {n : Nat} {Q : Int × Int × Nat → Shared → Prop} (hs : s.heap.IsSliceOf sl vl vu .none) (pl : IsPart vl lo) (pu : IsPart vu hi)
    (h : Q (((sIx n 0 lo : Nat) : Int), 1, sIx n n hi - sIx n 0 lo) s) : wpAny (model prog w) A (Builtin.Slice.sliceApplied (.ref sl) (pure (n : Int))) Q E s := by
  obtain ⟨os, hos, hcs, hds⟩ := id hs
  unfold Builtin.Slice.sliceApplied Builtin.Slice.sliceFields
  refine wpAny_bind (wpAny_bind (wpAny_field hos hds (x := vl) rfl (wpAny_bind (wpAny_field hos hds (x := vu) rfl (wpAny_bind (wpAny_field hos hds (x := .none) rfl (wpAny_pure ?_)))))))
  refine wpAny_bind (slicePart_none ?_)
  show wpAny _ _ (if ((1 : Int) == 0) = true then _ else _) _ _ s
  rw [if_neg (by decide)]
  refine wpAny_bind (slicePart_ pl (wpAny_bind (slicePart_ pu (wpAny_bind (wpAny_pure ?_)))))
  show wpAny _ _ (match Builtin.Slice.sliceAdjust lo hi 1 (n : Int) with | (lo, hi) => pure (lo, (1 : Int), Builtin.Slice.slicePlaces lo hi 1)) _ _ s
  rw [adjust_gen lo hi n]
  show wpAny _ _ (pure (((sIx n 0 lo : Nat) : Int), (1 : Int), Builtin.Slice.slicePlaces ((sIx n 0 lo : Nat) : Int) ((sIx n n hi : Nat) : Int) 1)) _ _ s
  rw [places_gen]
  exact wpAny_pure h
theorem pick_gen (xs : Array Value) (i k : Nat) : ((List.range k).filterMap fun (m : Nat) => xs[((i : Int) + (m : Int) * 1).toNat]?).toArray = ((xs.toList.drop i).take k).toArray := by
  have e : (fun (m : Nat) => xs[((i : Int) + (m : Int) * 1).toNat]?) = fun m => xs[i + m]? := by
    funext m
    have : ((i : Int) + (m : Int) * 1).toNat = i + m := by omega
    rw [this]
  rw [e]
  have := pick_run xs i k
  rw [List.filterMap_map] at this
  have e2 : ((fun x => xs[x]?) ∘ fun x => i + x) = fun m => xs[i + m]? := rfl
  rw [e2] at this
  rw [this]
theorem getItem_tuple_cut {t sl : Addr} {items : Array Value} {vl vu : Value} {lo hi : Option Int} {Q : Value → Shared → Prop} (ht : IsTup s.heap t items) (hs : s.heap.IsSliceOf sl vl vu .none) (pl : IsPart vl lo) (pu : IsPart vu hi)
    (hw : ¬ (sIx items.size 0 lo = 0 ∧ sIx items.size items.size hi = items.size))
    (h : Q (.ref s.heap.objs.size) { s with heap := s.heap.push { cls := .type "tuple", data := .seq ((items.toList.drop (sIx items.size 0 lo)).take (sIx items.size items.size hi - sIx items.size 0 lo)).toArray } })
    (hsz : items.size ≤ sizeLine) : wpAny (model prog w) A (getItem (.ref t) (.ref sl)) Q E s := by
  have htake : sizeOk (.seq ((items.toList.drop (sIx items.size 0 lo)).take (sIx items.size items.size hi - sIx items.size 0 lo)).toArray) := by
    show ((items.toList.drop (sIx items.size 0 lo)).take (sIx items.size items.size hi - sIx items.size 0 lo)).toArray.size ≤ sizeLine
    rw [List.size_toArray, List.length_take, List.length_drop, Array.length_toList]
    omega
  have hj : sIx items.size items.size hi ≤ items.size := sIx_le _ _ (Nat.le_refl _) hi
  obtain ⟨os, hos, hcs, hds⟩ := id hs
  have hTs : s.TypeIs (.ref sl) "slice" := ⟨os, hos, hcs⟩
  unfold getItem
  try with_reducible refine wpAny_holding ?_
  first | refine wpAny_bind (wpAny_pure ?_) | skip
  refine wpAny_bind (wpAny_sequenceKey ht.typeIs (by decide) ?_)
  refine wpAny_bind (wpAny_callSpecial?_slot (name := Str.ofString "__getitem__") ht.typeIs PyProof.Rows.slot_tuple_getitem
    (wpAny_call_entry PyProof.Rows.slot_tuple_getitem ht.typeIs entry_tuple_getitem ?_ (args_tuple_getitem _ _)))
  show wpAny _ _ (Builtin.Tuple.tupleItemsOf (.ref t) >>= _) _ _ s
  refine wpAny_bind (tupleItemsOf_ ht ?_)
  refine wpAny_bind (wpAny_typeOf hTs ?_)
  rw [if_pos (by decide)]
  refine wpAny_bind (sliceApplied_gen hs pl pu ?_)
  have hno : ¬ ((((sIx items.size 0 lo : Nat) : Int) == 0 && (1 : Int) == 1 && (sIx items.size items.size hi - sIx items.size 0 lo) == items.size) = true) := by
    intro q
    rw [Bool.and_eq_true, Bool.and_eq_true] at q
    have q1 : ((sIx items.size 0 lo : Nat) : Int) = 0 := eq_of_beq q.1.1
    have q2 : sIx items.size items.size hi - sIx items.size 0 lo = items.size := eq_of_beq q.2
    exact hw ⟨by omega, by omega⟩
  show wpAny _ _ (if (((sIx items.size 0 lo : Nat) : Int) == 0 && (1 : Int) == 1 && (sIx items.size items.size hi - sIx items.size 0 lo) == items.size) = true then _ else _) _ _ s
  rw [if_neg hno, pick_gen]
  first
    | exact wpAny_bind (m := Builtin.Tuple.tupleExact _) (wpAny_newObj_type (wpAny_pure ⟨_, rfl, wpAny_pure h⟩) htake)
    | exact wpAny_bind (m := Builtin.Tuple.tupleExact _) (wpAny_newObj_type (wpAny_bind (wpAny_pure (wpAny_pure ⟨_, rfl, wpAny_pure h⟩))) htake)
    | exact wpAny_bind (wpAny_bind (m := Builtin.Tuple.tupleExact _) (wpAny_newObj_type (wpAny_pure (wpAny_pure ⟨_, rfl, wpAny_pure h⟩)) htake))
    | exact wpAny_bind (wpAny_bind (m := Builtin.Tuple.tupleExact _) (wpAny_newObj_type (wpAny_pure ⟨_, rfl, wpAny_pure h⟩) htake))
end
end HT
namespace L2
open PySem PySem.Spec PyProof.Rows
abbrev TO := St → Hp → (Option Int → Hp → Prop) → Prop
def PO (X : Cx) (e : Option Expr) (t : TO) : Prop :=
  ∀ (pins : List (Addr × Obj)) (s : Shared) (σ : St) (H : Hp) (Q : Option Int → Hp → Prop), Inv X pins σ H s → t σ H Q →
    wpAny (model X.prog X.w) X.A (evalPart e X.env) (fun u s' => ∃ o H', Inv X pins σ H' s' ∧ IsPart u o ∧ Q o H') X.xe s
def tNoPart : TO := fun _ H Q => Q none H
def tPart (t : TE) : TO := fun σ H Q => t σ H fun x H1 => ∃ i, x = .int i ∧ Q (some i) H1
section
variable {X : Cx} {e : Expr} {te : TE} {lo hi : Option Expr} {tl th : TO} {pos p2 : Pos}
theorem po_none : PO X none tNoPart := by
  intro pins s σ H Q I h
  rw [evalPart_none]
  exact wpAny_pure ⟨none, H, I, .none, h⟩
theorem po_some (h : PE X e te) : PO X (some e) (tPart te) := by
  intro pins s σ H Q I hw
  rw [evalPart_some]
  refine thn (h pins s σ H _ I hw) fun u s1 ⟨x, H1, I1, r1, q1⟩ => ?_
  obtain ⟨i, rfl, q⟩ := q1
  obtain ⟨t, rfl⟩ := r1
  exact ⟨some i, H1, I1, .int i t, q⟩
def SlR (X : Cx) (r : V → Option Int → Option Int → Hp → VK → Prop) : Prop :=
  ∀ (pins : List (Addr × Obj)) (s : Shared) (σ : St) (H : Hp) (x : V) (v vl vu : Value) (lo hi : Option Int) (sl : Addr) (Q : VK), Inv X pins σ H s → RelV x v → s.heap.IsSliceOf sl vl vu .none → IsPart vl lo → IsPart vu hi → r x lo hi H Q →
    ∃ T id, typeLookup (.type T) "__getitem__" = pure (some (.builtin id)) ∧ s.TypeIs v T ∧ wpAny (model X.prog X.w) X.A (getItem v (.ref sl)) (EP X pins σ Q) X.xe s
def tSl (r : V → Option Int → Option Int → Hp → VK → Prop) (te : TE) (tl th : TO) : TE := fun σ H Q => te σ H fun x H1 => tl σ H1 fun l H2 => th σ H2 fun u H3 => r x l u H3 Q
theorem pe_slice {r : V → Option Int → Option Int → Hp → VK → Prop} (hr : SlR X r) (he : PE X e te) (hl : PO X lo tl) (hu : PO X hi th) : PE X (.Subscript e (.Slice lo hi none p2) pos) (tSl r te tl th) := by
  intro pins s σ H Q I h
  refine Subscript_ (thn (he pins s σ H _ I h) fun v s1 ⟨x, H1, I1, r1, q1⟩ => ?_)
  refine wpAny_Slice (thn (hl pins s1 σ H1 _ I1 q1) fun vl s2 ⟨l, H2, I2, pl, q2⟩ => thn (hu pins s2 σ H2 _ I2 q2) fun vu s3 ⟨u, H3, I3, pu, q3⟩ => ?_)
  rw [evalPart_none]
  refine wpAny_pure ?_
  have I4 : Inv X pins σ H3 { s3 with heap := s3.heap.push { cls := .type "slice", data := .fields #[vl, vu, .none] } } := I3.kept (t' := s3.toks) fun b ob q => Heap.get?_push_of_some _ q
  obtain ⟨T, id, hT, ht, hg⟩ := hr pins { s3 with heap := s3.heap.push { cls := .type "slice", data := .fields #[vl, vu, .none] } } σ H3 x v vl vu l u s3.heap.objs.size Q I4 r1 (Heap.IsSliceOf.new ..) pl pu q3
  show wpAny (model X.prog X.w) X.A (subscriptTail e (.Slice lo hi none p2) v (.ref s3.heap.objs.size)) (EP X pins σ Q) X.xe { s3 with heap := s3.heap.push { cls := .type "slice", data := .fields #[vl, vu, .none] } }
  exact tail_any (ops := [.ref s3.heap.objs.size, v]) ht hT hg (by with_unfolding_all rfl)
def cutV (xs : List V) (lo hi : Option Int) : List V := (xs.drop (HT.sIx xs.length 0 lo)).take (HT.sIx xs.length xs.length hi - HT.sIx xs.length 0 lo)
theorem cutV_length (xs : List V) (lo hi : Option Int) : (cutV xs lo hi).length ≤ xs.length := by
  unfold cutV
  rw [List.length_take, List.length_drop]
  omega
def rSlT (K : PySem.W.Frag) : V → Option Int → Option Int → Hp → VK → Prop := fun x lo hi H Q => ∃ a xs, x = .ref a ∧ SqT K H a xs ∧
  ¬ (HT.sIx xs.length 0 lo = 0 ∧ HT.sIx xs.length xs.length hi = xs.length) ∧ ∀ p, H p = none → Q (.ref p) (upd H p (.tup (cutV xs lo hi)))
theorem sl_tup : SlR X (rSlT X.K) := by
  intro pins s σ H x v vl vu lo hi sl Q I rx hs pl pu h
  obtain ⟨a, xs, rfl, hx, hw, q⟩ := h
  cases rx
  obtain ⟨its, r, ht, hz⟩ := I.tuple hx
  have hlen : its.toArray.size = xs.length := by rw [List.size_toArray]; exact r.length.symm
  refine ⟨"tuple", _, PyProof.Rows.slot_tuple_getitem.lookup, ht.typeIs, ?_⟩
  refine HT.getItem_tuple_cut ht hs pl pu (by rw [hlen]; exact hw) ?_ (by rw [hlen]; exact hz)
  rw [hlen]
  refine ⟨.ref s.heap.objs.size, _, I.laid (t' := s.toks) (o := .tup (cutV xs lo hi)) (fun b ob q => Heap.get?_push_of_some _ q) (Nat.le_refl _) ?_, rfl, q _ (I.hok.fresh (Nat.le_refl _))⟩
  exact ⟨⟨Nat.le_trans (cutV_length xs lo hi) hz, new_bare⟩, _, (r.drop (HT.sIx xs.length 0 lo)).take (HT.sIx xs.length xs.length hi - HT.sIx xs.length 0 lo), IsTup.new _ _⟩
def rCatT (K : PySem.W.Frag) : R2 := fun x y H Q => ∃ a b xs ys, x = .ref a ∧ y = .ref b ∧ SqT K H a xs ∧ SqT K H b ys ∧ xs ≠ [] ∧ xs.length + ys.length ≤ sizeLine ∧
  (ys = [] → Q (.ref a) H) ∧ (ys ≠ [] → ∀ p, H p = none → Q (.ref p) (upd H p (.tup (xs ++ ys))))
theorem Vals.nil_iff {xs : List V} {us : List Value} (r : Vals xs us) : us = [] ↔ xs = [] := by
  cases r with
  | nil => simp
  | cons _ _ => simp
theorem op_catT : OpR X (binaryOp .Add) (rCatT X.K) := by
  intro pins s σ H x y v u Q I rx ry h
  obtain ⟨a, b, xs, ys, rfl, rfl, ha, hb, hx, hz, q1, q2⟩ := h
  cases rx
  cases ry
  obtain ⟨its, r1, p1, _⟩ := I.tuple ha
  obtain ⟨its2, r2, p2, _⟩ := I.tuple hb
  refine HT.cat_tup p1 p2 (fun z => hx (r1.nil_iff.mp z)) (fun z => ⟨.ref a, H, I, rfl, q1 (r2.nil_iff.mp z)⟩) (fun z => ?_) (by rw [← r1.length, ← r2.length]; exact hz)
  refine ⟨.ref s.heap.objs.size, _, I.laid (t' := s.toks) (o := .tup (xs ++ ys)) (fun b ob q => Heap.get?_push_of_some _ q) (Nat.le_refl _) ?_, rfl, q2 (fun w => z (r2.nil_iff.mpr w)) _ (I.hok.fresh (Nat.le_refl _))⟩
  exact ⟨⟨by rw [List.length_append]; exact hz, new_bare⟩, _, r1.append r2, IsTup.new _ _⟩
end
end L2
namespace L2
open PySem PySem.Spec PyProof.Rows
def ixN (n : Nat) (i : Int) : Option Nat := if 0 ≤ i then (if i < n then some i.toNat else none) else if -(n : Int) ≤ i then some (i + n).toNat else none
def atI {α : Type} (xs : List α) (i : Int) : Option α := (ixN xs.length i).bind fun j => xs[j]?
theorem ixN_seq {n : Nat} {i : Int} {j : Nat} (h : ixN n i = some j) : seqIndex? i n = some j ∧ j < n ∧ -(n : Int) ≤ i ∧ i < n := by
  unfold ixN at h
  by_cases h0 : 0 ≤ i
  · rw [if_pos h0] at h
    by_cases h1 : i < n
    · rw [if_pos h1] at h
      have e : i.toNat = j := Option.some.inj h
      exact ⟨by rw [seqIndex_of h0 h1, e], by omega, by omega, h1⟩
    · rw [if_neg h1] at h; cases h
  · rw [if_neg h0] at h
    by_cases h1 : -(n : Int) ≤ i
    · rw [if_pos h1] at h
      have e : (i + n).toNat = j := Option.some.inj h
      exact ⟨by rw [seqIndex_neg (by omega) h1, e], by omega, h1, by omega⟩
    · rw [if_neg h1] at h; cases h
theorem atI_get {α : Type} {xs : List α} {i : Int} {v : α} (h : atI xs i = some v) : ∃ j, seqIndex? i xs.length = some j ∧ xs[j]? = some v ∧ j < xs.length ∧ -(xs.length : Int) ≤ i ∧ i < xs.length := by
  unfold atI at h
  cases e : ixN xs.length i with
  | none => rw [e] at h; cases h
  | some j =>
    rw [e] at h
    obtain ⟨h1, h2, h3, h4⟩ := ixN_seq e
    exact ⟨j, h1, h, h2, h3, h4⟩
theorem atI_nat {α : Type} {xs : List α} {j : Nat} {v : α} (h : xs[j]? = some v) : atI xs (j : Int) = some v := by
  have hj : j < xs.length := (List.getElem?_eq_some_iff.mp h).1
  have e : ixN xs.length (j : Int) = some j := by
    unfold ixN
    rw [if_pos (by omega), if_pos (by omega)]; simp
  unfold atI; rw [e]; exact h
def PlainIx (b : Expr) : Prop := ∀ o i, subscripted b false o i = operate [o, i] (getItem o i)
def IxR (X : Cx) (r : R2) : Prop :=
  ∀ (value slice : Expr) (pins : List (Addr × Obj)) (s : Shared) (σ : St) (H : Hp) (x y : V) (v u : Value) (Q : VK), Inv X pins σ H s → RelV x v → RelV y u → r x y H Q →
    subscripted slice false v u = operate [v, u] (getItem v u) → wpAny (model X.prog X.w) X.A (subscriptTail value slice v u) (EP X pins σ Q) X.xe s
def MtR (X : Cx) (id : String) (r : V → List V → Hp → VK → Prop) : Prop :=
  ∀ (pins : List (Addr × Obj)) (s : Shared) (σ : St) (H : Hp) (x : V) (xs : List V) (v : Value) (us : List Value) (Q : VK), Inv X pins σ H s → RelV x v → Vals xs us → r x xs H Q →
    wpAny (model X.prog X.w) X.A (call (.builtin id) (v :: us)) (EP X pins σ Q) X.xe s
section
variable {X : Cx} {a b : Expr} {ta tb : TE} {pos : Pos}
theorem pe_ix {r : R2} (hr : IxR X r) (ha : PE X a ta) (hb : PE X b tb) (hs : PlainIx b) : PE X (.Subscript a b pos) (tOp r ta tb) := by
  intro pins s σ H Q I h
  exact Subscript_ (binT ha hb I h fun v u s2 x y H2 I2 rx ry q => hr a b pins s2 σ H2 x y v u Q I2 rx ry q (hs _ _))
def rIxL (K : PySem.W.Frag) : R2 := fun x y H Q => ∃ p xs i v, x = .ref p ∧ y = .int i ∧ SqL K H p xs ∧ atI xs i = some v ∧ Q v H
def rIxT (K : PySem.W.Frag) : R2 := fun x y H Q => ∃ p xs i v, x = .ref p ∧ y = .int i ∧ SqT K H p xs ∧ atI xs i = some v ∧ Q v H
theorem ix_list : IxR X (rIxL X.K) := by
  intro value slice pins s σ H x y v u Q I rx ry h hs
  obtain ⟨p, xs, i, z, rfl, rfl, hq, he, q⟩ := h
  cases rx
  obtain ⟨t, rfl⟩ := ry
  obtain ⟨its, r, pl, hz⟩ := I.list hq
  obtain ⟨j, h1, h2, h3, h4, h5⟩ := atI_get he
  obtain ⟨w, ew, rw'⟩ := r.get h2
  have hl := r.length
  have hn := line63
  have fin : EP X pins σ Q w s := ⟨z, H, I, rw', q⟩
  by_cases h0 : 0 ≤ i
  · have hj : i.toNat = j := by
      rw [seqIndex_of h0 h5] at h1
      exact Option.some.inj h1
    exact item_listR pl.isList h0 (by omega) (by rw [hj]; simpa using ew) fin hs
  · have hj : (i + (its.toArray.size : Int)).toNat = j := by
      rw [seqIndex_neg (by omega) h4] at h1
      rw [List.size_toArray, ← hl]
      exact Option.some.inj h1
    exact subscriptTail_builtinR (x := w) pl.isList.typeIs slot_list_getitem.lookup
      (wpAny_getItem_list_neg (Q := fun r s' => r = w ∧ EP X pins σ Q r s') pl.isList (by omega) (by rw [List.size_toArray] <;> omega) (by omega) (by rw [hj]; simpa using ew) ⟨rfl, fin⟩) hs
theorem ix_tup : IxR X (rIxT X.K) := by
  intro value slice pins s σ H x y v u Q I rx ry h hs
  obtain ⟨p, xs, i, z, rfl, rfl, hq, he, q⟩ := h
  cases rx
  obtain ⟨t, rfl⟩ := ry
  obtain ⟨its, r, pl, hz⟩ := I.tuple hq
  obtain ⟨j, h1, h2, h3, h4, h5⟩ := atI_get he
  obtain ⟨w, ew, rw'⟩ := r.get h2
  have hl := r.length
  have hn := line63
  have fin : EP X pins σ Q w s := ⟨z, H, I, rw', q⟩
  exact subscriptTail_builtinR (x := w) pl.typeIs slot_tuple_getitem.lookup
    (getItem_tuple (j := j) (Q := fun r s' => r = w ∧ EP X pins σ Q r s') pl (by omega) (by omega) (by rw [List.size_toArray, ← hl]; exact h1) (by simpa using ew) ⟨rfl, fin⟩) hs
theorem mapSeq_set (its : List Value) (n j : Nat) (u : Value) : Obj.mapSeq (·.setIfInBounds j u) { cls := .type "list", data := .seq its.toArray n } = { cls := .type "list", data := .seq (its.set j u).toArray n } := by
  simp [Obj.mapSeq]
theorem Inv.lst {pins : List (Addr × Obj)} {σ : St} {H : Hp} {s : Shared} {p : Addr} {xs : List V} (I : Inv X pins σ H s) (h : H p = some (.lst xs)) :
    ∃ (its : List Value) (n : Nat), Vals xs its ∧ s.heap.get? p = some { cls := .type "list", data := .seq its.toArray n } ∧ xs.length ≤ sizeLine := by
  obtain ⟨z, its, n, r, e⟩ := I.hok p _ h
  exact ⟨its, n, r, e, z⟩
theorem Inv.lstUpd {pins : List (Addr × Obj)} {σ : St} {H : Hp} {s : Shared} {p : Addr} {xs ys : List V} {its its' : List Value} {n n' : Nat} {f : Obj → Obj} (I : Inv X pins σ H s) (h : H p = some (.lst xs))
    (ho : s.heap.get? p = some { cls := .type "list", data := .seq its.toArray n }) (hf : f { cls := .type "list", data := .seq its.toArray n } = { cls := .type "list", data := .seq its'.toArray n' }) (r : Vals ys its') (hz : ys.length ≤ sizeLine) (t : Nat) :
    Inv X pins σ (upd H p (.lst ys)) { s with heap := s.heap.update p f, toks := t } := by
  have e : (s.heap.update p f).get? p = some { cls := .type "list", data := .seq its'.toArray n' } := by
    rw [Heap.get?_update_self f ho (by rw [hf] <;> rfl), hf]
  refine I.write (x := p) (e := p) (by rw [h]; trivial) (.inl rfl) (fun b u hb q => (Heap.get?_update_other _ _ (Ne.symm hb)).trans q) ⟨_, e⟩ ?_
  exact ⟨hz, its', n', r, e⟩
def rSetL : V → V → V → Hp → (Hp → Prop) → Prop := fun o i v H Q => ∃ p xs k j, o = .ref p ∧ i = .int k ∧ H p = some (.lst xs) ∧ ixN xs.length k = some j ∧ Q (upd H p (.lst (xs.set j v)))
theorem set_list : PSet X rSetL := by
  intro pins s σ H o i v ov iv u Q I ro ri rv h
  obtain ⟨p, xs, k, j, rfl, rfl, hp, hj, q⟩ := h
  cases ro
  obtain ⟨t, rfl⟩ := ri
  obtain ⟨its, n, r, ho, hz⟩ := I.lst hp
  obtain ⟨h1, h2, h3, h4⟩ := ixN_seq hj
  have hl := r.length
  have hn := line63
  have I' : Inv X pins σ (upd H p (.lst (xs.set j v))) { s with heap := s.heap.update p (Obj.mapSeq (·.setIfInBounds j u)) } :=
    I.lstUpd hp ho (mapSeq_set its n j u) (r.set rv j) (by rw [List.length_set]; exact hz) s.toks
  by_cases h0 : 0 ≤ k
  · have hk : k.toNat = j := by
      rw [seqIndex_of h0 h4] at h1
      exact Option.some.inj h1
    exact PySem.W.ki_setAt ho h0 (by omega) (by rw [List.size_toArray, ← hl]; exact h4) (by rw [hk]; exact ⟨_, I', q⟩)
  · have hk : (k + (its.toArray.size : Int)).toNat = j := by
      rw [seqIndex_neg (by omega) h3] at h1
      rw [List.size_toArray, ← hl]
      exact Option.some.inj h1
    exact PySem.W.ki_setBack ho (by omega) (by rw [List.size_toArray, ← hl]; exact h3) (by omega) (by rw [hk]; exact ⟨_, I', q⟩)
theorem slice_bounds (lo hi : Option Int) (n : Nat) : (sliceBounds lo hi none n).1 = ((HT.sIx n 0 lo : Nat) : Int) ∧ (sliceBounds lo hi none n).2.1 = ((HT.sIx n n hi : Nat) : Int) ∧ (sliceBounds lo hi none n).2.2 = 1 := by
  refine ⟨?_, ?_, rfl⟩
  · cases lo with
    | none => simp [sliceBounds, HT.sIx]
    | some i =>
      simp only [sliceBounds, HT.sIx, Option.getD_none, show (1 : Int) > 0 by decide, if_true]
      by_cases h : i < 0
      · simp only [h, if_true] <;> omega
      · simp only [h, if_false] <;> omega
  · cases hi with
    | none => simp [sliceBounds, HT.sIx]
    | some i =>
      simp only [sliceBounds, HT.sIx, Option.getD_none, show (1 : Int) > 0 by decide, if_true]
      by_cases h : i < 0
      · simp only [h, if_true] <;> omega
      · simp only [h, if_false] <;> omega
theorem slicePick_cut (its : List Value) (lo hi : Option Int) : slicePick its.toArray lo hi none = ((its.drop (HT.sIx its.length 0 lo)).take (HT.sIx its.length its.length hi - HT.sIx its.length 0 lo)).toArray := by
  obtain ⟨h1, h2, h3⟩ := slice_bounds lo hi its.toArray.size
  unfold slicePick
  rw [h1, h2, h3]
  simp only [sliceRange_one, pick_run, List.size_toArray] <;> rfl
def rSlL (K : PySem.W.Frag) : V → Option Int → Option Int → Hp → VK → Prop := fun x lo hi H Q => ∃ a xs, x = .ref a ∧ SqL K H a xs ∧ ∀ p, H p = none → Q (.ref p) (upd H p (.lst (cutV xs lo hi)))
theorem sl_list : SlR X (rSlL X.K) := by
  intro pins s σ H x v vl vu lo hi sl Q I rx hs pl pu h
  obtain ⟨a, xs, rfl, hx, q⟩ := h
  cases rx
  obtain ⟨its, r, ht, hz⟩ := I.list hx
  have hlen := r.length
  refine ⟨"list", _, slot_list_getitem.lookup, ht.isList.typeIs, ?_⟩
  refine wpAny_getItem_list_slice ht.isList hs pl pu .none (by simp) ?_ (by rw [List.size_toArray] <;> omega)
  rw [slicePick_cut, ← hlen]
  refine ⟨.ref s.heap.objs.size, _, I.laid (t' := s.toks) (o := .lst (cutV xs lo hi)) (fun b ob q => Heap.get?_push_of_some _ q) (Nat.le_refl _) ?_, rfl, q _ (I.hok.fresh (Nat.le_refl _))⟩
  exact ⟨Nat.le_trans (cutV_length xs lo hi) hz, _, 0, (r.drop (HT.sIx xs.length 0 lo)).take (HT.sIx xs.length xs.length hi - HT.sIx xs.length 0 lo), Heap.get?_push_size _ rfl⟩
def flatV : V → Bool
  | .non => true
  | .bl _ => true
  | .int _ => true
  | .str _ => true
  | _ => false
def eqV : V → V → Bool
  | .non, .non => true
  | .bl a, .bl b => a == b
  | .bl a, .int b => (if a then 1 else 0) == b
  | .int a, .bl b => a == (if b then 1 else 0)
  | .int a, .int b => a == b
  | .str a, .str b => a == b
  | _, _ => false
theorem eqAt_V {A : Around} {s : Shared} {y x : V} {u v : Value} (ry : RelV y u) (rx : RelV x v) (fy : flatV y = true) (fx : flatV x = true) : SeqAt.EqAt A s u v (eqV y x) := by
  cases y with
  | non =>
    cases ry
    cases x with
    | non => cases rx; exact SeqAt.EqAt.same _
    | bl b => cases rx; exact SeqAt.EqAt.none_bool b
    | int b => obtain ⟨t, rfl⟩ := rx; exact SeqAt.EqAt.none_int b t
    | str b => obtain ⟨t, rfl⟩ := rx; exact SeqAt.EqAt.none_str b t
    | _ => exact absurd (show false = true from fx) Bool.false_ne_true
  | bl a =>
    cases ry
    cases x with
    | non => cases rx; exact SeqAt.EqAt.bool_none a
    | bl b => cases rx; exact SeqAt.EqAt.bool_bool a b
    | int b => obtain ⟨t, rfl⟩ := rx; exact SeqAt.EqAt.bool_int a b t
    | str b => obtain ⟨t, rfl⟩ := rx; exact SeqAt.EqAt.bool_str a b t
    | _ => exact absurd (show false = true from fx) Bool.false_ne_true
  | int a =>
    obtain ⟨t', rfl⟩ := ry
    cases x with
    | non => cases rx; exact SeqAt.EqAt.int_none a t'
    | bl b => cases rx; exact SeqAt.EqAt.int_bool a t' b
    | int b => obtain ⟨t, rfl⟩ := rx; exact SeqAt.EqAt.int_int a t' b t
    | str b => obtain ⟨t, rfl⟩ := rx; exact SeqAt.EqAt.int_str a t' b t
    | _ => exact absurd (show false = true from fx) Bool.false_ne_true
  | str a =>
    obtain ⟨t', rfl⟩ := ry
    cases x with
    | non => cases rx; exact SeqAt.EqAt.str_none a t'
    | bl b => cases rx; exact SeqAt.EqAt.str_bool a t' b
    | int b => obtain ⟨t, rfl⟩ := rx; exact SeqAt.EqAt.str_int a t' b t
    | str b => obtain ⟨t, rfl⟩ := rx; exact SeqAt.EqAt.str_str a t' b t
    | _ => exact absurd (show false = true from fx) Bool.false_ne_true
  | _ => exact absurd (show false = true from fy) Bool.false_ne_true
def eqU (x : V) (u : Value) : Bool := match u with
  | .none => eqV .non x
  | .bool b => eqV (.bl b) x
  | .int i _ => eqV (.int i) x
  | .str z _ => eqV (.str z) x
  | _ => false
theorem eqU_of {x y : V} {u : Value} (r : RelV y u) (f : flatV y = true) : eqU x u = eqV y x := by
  cases y with
  | non => cases r; rfl
  | bl b => cases r; rfl
  | int i => obtain ⟨t, rfl⟩ := r; rfl
  | str z => obtain ⟨t, rfl⟩ := r; rfl
  | _ => exact absurd (show false = true from f) Bool.false_ne_true
theorem any_eqU {x : V} : ∀ {xs : List V} {us : List Value}, Vals xs us → xs.all flatV = true → us.any (eqU x) = xs.any fun y => eqV y x
  | _, _, .nil, _ => rfl
  | y :: xs, u :: us, .cons r t, f => by
    rw [List.all_cons, Bool.and_eq_true] at f
    rw [List.any_cons, List.any_cons, eqU_of r f.1, any_eqU t f.2]
theorem mem_eqAt {A : Around} {s : Shared} {x : V} {v : Value} (rx : RelV x v) (fx : flatV x = true) : ∀ {xs : List V} {us : List Value}, Vals xs us → xs.all flatV = true → ∀ u ∈ us, SeqAt.EqAt A s u v (eqU x u)
  | _, _, .nil, _ => fun u hu => by cases hu
  | y :: xs, u :: us, .cons r t, f => fun u' hu => by
    rw [List.all_cons, Bool.and_eq_true] at f
    rcases List.mem_cons.mp hu with rfl | hu
    · rw [eqU_of r f.1]; exact eqAt_V r rx f.1 fx
    · exact mem_eqAt rx fx t f.2 u' hu
def inV (x : V) (xs : List V) : Bool := xs.any fun y => eqV y x
def rIn (K : PySem.W.Frag) (neg : Bool) : R2 := fun x y H Q => ∃ p xs, y = .ref p ∧ (SqL K H p xs ∨ SqT K H p xs) ∧ flatV x = true ∧ xs.all flatV = true ∧ Q (.bl (if neg then !inV x xs else inV x xs)) H
theorem op_in_seq : OpR X (compareOp .In) (rIn X.K false) := by
  intro pins s σ H x y v u Q I rx ry h
  obtain ⟨p, xs, rfl, hq, fx, fs, q⟩ := h
  cases ry
  rcases hq with hq | hq
  · obtain ⟨its, r, pl, hz⟩ := I.list hq
    refine SeqAt.in_listAt (eqU x) pl.isList (fun w hw => mem_eqAt rx fx r fs w (by simpa using hw)) ⟨.bl _, H, I, rfl, ?_⟩
    rw [show its.toArray.any (eqU x) = its.any (eqU x) by simp, any_eqU r fs]
    exact q
  · obtain ⟨its, r, pl, hz⟩ := I.tuple hq
    refine SeqAt.in_tupleAt (eqU x) pl (fun w hw => mem_eqAt rx fx r fs w (by simpa using hw)) ⟨.bl _, H, I, rfl, ?_⟩
    rw [show its.toArray.any (eqU x) = its.any (eqU x) by simp, any_eqU r fs]
    exact q
theorem call_len_seq : CallR X (.builtin "len") (fun xs H Q => ∃ p ys, xs = [.ref p] ∧ (SqL X.K H p ys ∨ SqT X.K H p ys) ∧ Q (.int ys.length) H) := by
  intro pins s σ H xs us Q I r h
  obtain ⟨p, ys, rfl, hq, q⟩ := h
  obtain ⟨u, rfl, rx⟩ := vals1 r
  cases rx
  have hn := line63
  rcases hq with hq | hq
  · obtain ⟨its, r', pl, hz⟩ := I.list hq
    have hlen := r'.length
    exact Calls.call_len_list pl.isList (by simp only [List.size_toArray] <;> omega) ⟨.int ys.length, H, I.tok _, ⟨s.toks + 1, by rw [List.size_toArray, hlen]⟩, q⟩
  · obtain ⟨its, r', pl, hz⟩ := I.tuple hq
    have hlen := r'.length
    exact len_tuple pl (by simp only [List.size_toArray] <;> omega) ⟨.int ys.length, H, I.tok _, ⟨s.toks + 1, by rw [List.size_toArray, hlen]⟩, q⟩
theorem call_list_of : CallR X (.type "list") (fun xs H Q => ∃ p ys, xs = [.ref p] ∧ (SqL X.K H p ys ∨ SqT X.K H p ys) ∧ ∀ l, H l = none → Q (.ref l) (upd H l (.lst ys))) := by
  intro pins s σ H xs us Q I r h
  obtain ⟨p, ys, rfl, hq, q⟩ := h
  obtain ⟨u, rfl, rx⟩ := vals1 r
  cases rx
  have fin : ∀ (its : List Value), Vals ys its → ys.length ≤ sizeLine → ∀ (h' : Heap) (c' : Nat), (∀ b o', s.heap.get? b = some o' → h'.get? b = some o') →
      h'.get? s.heap.objs.size = some { cls := .type "list", dict := none, data := .seq its.toArray c', slots := #[] } → EP X pins σ Q (.ref s.heap.objs.size) { s with heap := h' } := fun its r' hz h' c' kp e =>
    ⟨.ref s.heap.objs.size, _, I.laid (t' := s.toks) kp (Nat.le_refl _) (show ObjOk X.prog X.w _ h' _ (.lst ys) from ⟨hz, its, c', r', e⟩), rfl, q _ (I.hok.fresh (Nat.le_refl _))⟩
  rcases hq with hq | hq
  · obtain ⟨its, r', pl, hz⟩ := I.list hq
    have hlen := r'.length
    obtain ⟨o, ho, hc, n, hd⟩ := pl.isList
    exact call_list_seq p (.inl rfl) ho hc hd (fun h' c' kp e => fin its r' hz h' c' kp e) (by simp only [List.size_toArray] <;> omega)
  · obtain ⟨its, r', pl, hz⟩ := I.tuple hq
    have hlen := r'.length
    obtain ⟨o, ho, hc, n, hd⟩ := pl
    exact call_list_seq p (.inr rfl) ho hc hd (fun h' c' kp e => fin its r' hz h' c' kp e) (by simp only [List.size_toArray] <;> omega)
theorem call_tuple_of : CallR X (.type "tuple") (fun xs H Q => ∃ p ys, xs = [.ref p] ∧ ((SqL X.K H p ys ∧ ∀ l, H l = none → Q (.ref l) (upd H l (.tup ys))) ∨ (SqT X.K H p ys ∧ Q (.ref p) H))) := by
  intro pins s σ H xs us Q I r h
  obtain ⟨p, ys, rfl, h⟩ := h
  obtain ⟨u, rfl, rx⟩ := vals1 r
  cases rx
  rcases h with ⟨hq, q⟩ | ⟨hq, q⟩
  · obtain ⟨its, r', pl, hz⟩ := I.list hq
    have hlen := r'.length
    refine call_tuple_list pl.isList (fun h' kp => ?_) (by simp only [List.size_toArray] <;> omega)
    have I1 : Inv X pins σ H { s with heap := h' } := I.kept (t' := s.toks) kp
    have I2 : Inv X pins σ (upd H h'.objs.size (.tup ys)) { s with heap := h'.push { cls := .type "tuple", data := .seq its.toArray } } :=
      I1.laid (t' := s.toks) (fun b o e => Heap.get?_push_of_some _ e) (Nat.le_refl _) (show ObjOk X.prog X.w _ _ _ (.tup ys) from ⟨⟨hz, new_bare⟩, its, r', IsTup.new _ _⟩)
    exact ⟨.ref h'.objs.size, _, I2, rfl, q _ (I1.hok.fresh (Nat.le_refl _))⟩
  · obtain ⟨its, r', pl, hz⟩ := I.tuple hq
    exact call_tuple_same pl ⟨.ref p, H, I, rfl, q⟩
def tyV (K : PySem.W.Frag) (T : String) (x : V) (H : Hp) : Prop := match x with
  | .str _ => T = "str"
  | .int _ => T = "int"
  | .ref p => (T = "list" ∧ ∃ xs, SqL K H p xs) ∨ (T = "tuple" ∧ ((∃ o, K.lookup p = some o ∧ o.cls = .type "tuple" ∧ o.dict = none) ∨ ∃ xs, H p = some (.tup xs))) ∨
      (T = "dict" ∧ ((∃ kvs, H p = some (.dK kvs)) ∨ ∃ kvs, H p = some (.dT kvs))) ∨ (T = "set" ∧ ∃ S n, H p = some (.set S n))
  | _ => False
theorem tyV_is {pins : List (Addr × Obj)} {σ : St} {H : Hp} {s : Shared} {T : String} {x : V} {v : Value} (I : Inv X pins σ H s) (r : RelV x v) (ty : tyV X.K T x H) :
    s.TypeIs v T ∧ ∀ a, v = .ref a → ∃ ob, s.heap.get? a = some ob ∧ ob.dict = none := by
  cases x with
  | str z =>
    obtain ⟨t, rfl⟩ := r
    cases (show T = "str" from ty)
    exact ⟨typeIs_str s z t, fun _ e => nomatch e⟩
  | int i =>
    obtain ⟨t, rfl⟩ := r
    cases (show T = "int" from ty)
    exact ⟨typeIs_int s i t, fun _ e => nomatch e⟩
  | ref p =>
    cases r
    rcases ty with ⟨rfl, xs, hq⟩ | ⟨rfl, ⟨o, hk, hc, hd⟩ | ⟨xs, hk⟩⟩ | ⟨rfl, hk⟩ | ⟨rfl, S, n, hk⟩
    · obtain ⟨its, _, pl, _⟩ := I.list hq
      refine ⟨pl.isList.typeIs, fun a e => ?_⟩
      cases e
      obtain ⟨o, n, e, c, hd, _⟩ := pl
      exact ⟨o, e, hd⟩
    · refine ⟨⟨o, I.kIn p o hk, hc⟩, fun a e => ?_⟩
      cases e
      exact ⟨o, I.kIn _ o hk, hd⟩
    · obtain ⟨nb, _, _, o, e, c, _⟩ := I.hok p _ hk
      exact ⟨⟨o, e, c⟩, fun a z => by cases z; exact ⟨o, e, nb.2 o e⟩⟩
    · have z : ∃ o, s.heap.get? p = some o ∧ o.ExactDict := by
        rcases hk with ⟨kvs, hk⟩ | ⟨kvs, hk⟩
        · obtain ⟨_, _, _, _, o, _, _, e, ex, _⟩ := I.hok p _ hk
          exact ⟨o, e, ex⟩
        · obtain ⟨_, _, _, _, o, _, _, e, ex, _⟩ := I.hok p _ hk
          exact ⟨o, e, ex⟩
      obtain ⟨o, e, ex⟩ := z
      refine ⟨⟨o, e, ex.1⟩, fun a e2 => ?_⟩
      cases e2
      exact ⟨o, e, ex.2.1⟩
    · obtain ⟨o, _, _, _, e, ex, _⟩ := I.hok p _ hk
      refine ⟨⟨o, e, ex.1⟩, fun a e2 => ?_⟩
      cases e2
      exact ⟨o, e, ex.2.1⟩
  | _ => exact False.elim ty
def tBM (K : PySem.W.Frag) (T : String) (r : V → List V → Hp → VK → Prop) (to : TE) (t : TA) : TE := fun σ H Q => to σ H fun x H1 => tyV K T x H1 ∧ t σ H1 fun xs H2 => r x xs H2 Q
variable {o e : Expr} {es : List Expr} {to : TE} {t : TA} {name : Str} {apos cpos : Pos} {T id : String} {r : V → List V → Hp → VK → Prop}
theorem pe_bm (pa : PlainAttrs T) (slot : Slot T name id) (hty : typeOf (.builtin id) = pure (.type "method_descriptor")) (hm : MtR X id r) (ho : PE X o to) (ha : PA X (e :: es) t)
    (hbase : attributeBase o name X.env (eval o X.env) = eval o X.env := by rfl)
    (hfew : ((backTo cpos (starEach (e :: es) X.env)).all (fun x => !x.1) && (backToKw cpos (keywordEach [] X.env)).all (fun x => x.1.isSome)
      && decide ((e :: es).length + ([] : List Keyword).length + (if ([] : List Keyword).isEmpty then 0 else 1) < 30)) = true := by rfl)
    (hline : (apos.endLine == cpos.line) = true := by rfl) (hs : starEach (e :: es) X.env = (false, eval e X.env) :: starEach es X.env := by rfl) (hplain : (backTo cpos (starEach es X.env)).any (·.1) = false := by rfl) :
    PE X (.Call (.Attribute o name apos) (e :: es) [] cpos) (tBM X.K T r to t) := by
  intro pins s σ H Q I h
  refine wpAny_Call_method_late hbase hfew hline rfl (thn (ho pins s σ H _ I h) fun v s1 ⟨x, H1, I1, r1, ty, q1⟩ => ?_)
  obtain ⟨h1, h2⟩ := tyV_is I1 r1 ty
  refine ⟨T, id, pa, slot, hty, h1, h2, ?_⟩
  have hA := ha cpos pins s1 σ H1 _ I1 q1
  rw [hs] at hA ⊢
  refine Calls.callWith_builtin (by show (false || (backTo cpos (starEach es X.env)).any (·.1)) = false; rw [hplain] <;> rfl) (Calls.evalArgs_plain ?_)
  exact thn hA fun us s2 ⟨vs, H2, I2, r2, q2⟩ => hm pins s2 σ H2 x vs v us Q I2 r1 r2 q2
/- xs.append(e), list.index on a module's tuple .. are MtR facts of 06m -/
end
end L2
namespace L2
open PySem PySem.Spec PyProof.Rows
def MtM (X : Cx) (id : String) (r : V → List V → Hp → VK → Prop) : Prop :=
  ∀ (pins : List (Addr × Obj)) (s : Shared) (σ : St) (H : Hp) (x : V) (xs : List V) (v : Value) (us : List Value) (Q : VK), Inv X pins σ H s → RelV x v → Vals xs us → r x xs H Q →
    wpAny (model X.prog X.w) X.A (call (.builtin id) (v :: us)) (EP X pins σ Q) X.xe s
theorem Vals.one : ∀ {x : V} {us : List Value}, Vals [x] us → ∃ u, us = [u] ∧ RelV x u
  | _, _, .cons r .nil => ⟨_, rfl, r⟩
theorem Vals.rep {xs : List V} {us : List Value} (h : Vals xs us) : ∀ k : Nat, Vals (List.replicate k xs).flatten (List.replicate k us).flatten
  | 0 => .nil
  | k + 1 => by
    rw [List.replicate_succ, List.replicate_succ, List.flatten_cons, List.flatten_cons]
    exact Vals.append h (Vals.rep h k)
theorem foldl_rep (its : List Value) : ∀ (k : Nat) (acc : List Value),
    List.foldl (fun x1 x2 => x1 ++ x2) acc.toArray (List.replicate k its.toArray) = (acc ++ (List.replicate k its).flatten).toArray
  | 0, acc => by simp
  | k + 1, acc => by
    have e : acc.toArray ++ its.toArray = (acc ++ its).toArray := by simp
    have e2 : (acc ++ its) ++ (List.replicate k its).flatten = acc ++ (List.replicate (k + 1) its).flatten := by
      rw [List.replicate_succ, List.flatten_cons, List.append_assoc]
    rw [← e2, ← foldl_rep its k (acc ++ its), ← e, List.replicate_succ, List.foldl_cons]
section
variable {X : Cx} {pins : List (Addr × Obj)} {σ : St} {H : Hp} {s : Shared} {l b : Addr} {xs ys zs : List V}
theorem Inv.lset {its its' : List Value} {n : Nat} {f : Array Value → Array Value} {t' : Nat} (I : Inv X pins σ H s) (hH : H l = some (.lst xs))
    (e : s.heap.get? l = some { cls := .type "list", data := .seq its.toArray n }) (hf : f its.toArray = its'.toArray) (hv : Vals ys its') (hz : ys.length ≤ sizeLine) :
    Inv X pins σ (upd H l (.lst ys)) { s with heap := s.heap.update l (Obj.mapSeq f), toks := t' } := by
  have q := PySem.IsL.update e f
  rw [hf] at q
  refine I.write (x := l) (e := l) (by rw [hH]; exact trivial) (.inl rfl) (fun b' u hb hu => (Heap.get?_update_other s.heap (Obj.mapSeq f) (Ne.symm hb)).trans hu) ⟨_, q⟩ ?_
  exact ⟨hz, its', _, hv, q⟩
theorem Inv.lnew {its : List Value} {t' : Nat} (I : Inv X pins σ H s) (hv : Vals ys its) (hz : ys.length ≤ sizeLine) :
    Inv X pins σ (upd H s.heap.objs.size (.lst ys)) { s with heap := s.heap.push { cls := .type "list", data := .seq its.toArray }, toks := t' } :=
  I.laid (fun _ _ q => Heap.get?_push_of_some _ q) (Nat.le_refl _) ⟨hz, its, 0, hv, Heap.get?_push_size _ rfl⟩
theorem Inv.fresh (I : Inv X pins σ H s) : H s.heap.objs.size = none := I.hok.fresh (Nat.le_refl _)
theorem Inv.lstM (I : Inv X pins σ H s) (hH : H l = some (.lst xs)) : xs.length ≤ sizeLine ∧ ∃ (its : List Value) (n : Nat), Vals xs its ∧ xs.length = its.length ∧ s.heap.get? l = some { cls := .type "list", data := .seq its.toArray n } := by
  obtain ⟨z, its, n, r, e⟩ := I.hok l _ hH
  exact ⟨z, its, n, r, r.length, e⟩
theorem notLongL {n : Nat} (h : n ≤ sizeLine) : Builtin.List.listTooLong n = false := by
  unfold Builtin.List.listTooLong
  exact decide_eq_false (by omega)
end
section
variable {X : Cx}
def rAppend : V → List V → Hp → VK → Prop := fun x vs H Q => ∃ l xs y, x = .ref l ∧ vs = [y] ∧ H l = some (.lst xs) ∧ xs.length < sizeLine ∧ Q .non (upd H l (.lst (xs ++ [y])))
theorem mt_append : MtM X "list.append" rAppend := by
  intro pins s σ H x vs v us Q I rx rv h
  obtain ⟨l, xs, y, rfl, rfl, hH, hz, q⟩ := h
  cases rx
  obtain ⟨u, rfl, ru⟩ := rv.one
  obtain ⟨z, its, n, r, hl, e⟩ := I.lstM hH
  refine call_meets F.slot_list_append ⟨_, e, rfl⟩ F.entry_list_append (F.args_list_append_2 _ _) (PySem.list_append l its.toArray n u (by rw [List.size_toArray]; omega)) ⟨e, ?_⟩
  refine ⟨.non, _, I.lset (its' := its ++ [u]) hH e (by simp) (r.append (.cons ru .nil)) ?_, rfl, q⟩
  rw [List.length_append, List.length_singleton]
  omega
def rCat : R2 := fun x y H Q => ∃ l b xs zs, x = .ref l ∧ y = .ref b ∧ H l = some (.lst xs) ∧ H b = some (.lst zs) ∧ xs.length + zs.length ≤ sizeLine ∧ ∀ p, H p = none → Q (.ref p) (upd H p (.lst (xs ++ zs)))
theorem op_cat : OpR X (binaryOp .Add) rCat := by
  intro pins s σ H x y v u Q I rx ry h
  obtain ⟨l, b, xs, zs, rfl, rfl, hH, hB, hz, q⟩ := h
  cases rx
  cases ry
  obtain ⟨z, its, n, r, hl, e⟩ := I.lstM hH
  obtain ⟨z2, its2, n2, r2, hl2, e2⟩ := I.lstM hB
  refine PySem.P.add_list e e2 ?_ (by rw [List.size_toArray, List.size_toArray]; omega)
  have ea : its.toArray ++ its2.toArray = (its ++ its2).toArray := by simp
  rw [ea]
  exact ⟨.ref _, _, I.lnew (t' := s.toks) (r.append r2) (by rw [List.length_append]; omega), rfl, q _ I.fresh⟩
def rRep : R2 := fun x y H Q => ∃ l k xs, x = .ref l ∧ y = .int k ∧ H l = some (.lst xs) ∧ -(2 ^ 63) ≤ k ∧ k < 2 ^ 63 ∧ xs.length * k.toNat ≤ sizeLine ∧
  ∀ p, H p = none → Q (.ref p) (upd H p (.lst (List.replicate k.toNat xs).flatten))
theorem len_rep {α : Type} (xs : List α) (k : Nat) : (List.replicate k xs).flatten.length = k * xs.length := by
  induction k with
  | zero => simp
  | succ k ih => rw [List.replicate_succ, List.flatten_cons, List.length_append, ih, Nat.succ_mul, Nat.add_comm]
theorem op_rep : OpR X (binaryOp .Mult) rRep := by
  intro pins s σ H x y v u Q I rx ry h
  obtain ⟨l, k, xs, rfl, rfl, hH, h1, h2, hz, q⟩ := h
  cases rx
  obtain ⟨t, rfl⟩ := ry
  obtain ⟨z, its, n, r, hl, e⟩ := I.lstM hH
  have hlen : its.toArray.size * k.toNat ≤ sizeLine := by rw [List.size_toArray, ← hl]; exact hz
  have hcap : ¬ its.toArray.size * k.toNat > (2 ^ 63 - 1) / 8 := by
    have : (sizeLine : Nat) ≤ (2 ^ 63 - 1) / 8 := by decide
    omega
  have hfit : ¬ (!Builtin.List.listFitsIndex k) = true := by
    rw [fitsIndex_both h1 h2]
    exact Bool.false_ne_true
  have hlong : ¬ Builtin.List.listTooLong (its.toArray.size * k.toNat) = true := by
    rw [notLongL hlen]
    exact Bool.false_ne_true
  have hnew : List.foldl (fun x1 x2 => x1 ++ x2) #[] (List.replicate (if its.toArray.isEmpty = true then 0 else k.toNat) its.toArray) = (List.replicate k.toNat its).flatten.toArray := by
    have f0 : ∀ m : Nat, List.foldl (fun x1 x2 => x1 ++ x2) #[] (List.replicate m its.toArray) = (List.replicate m its).flatten.toArray := fun m => by
      have := foldl_rep its m []
      rw [List.nil_append] at this
      exact this
    rw [f0]
    cases its with
    | nil => simp
    | cons a r' => rw [if_neg (by simp)]
  refine wpAny_binaryOp_repeat_ref (T := "list") (U := "int") (by decide) ⟨_, e, rfl⟩ (fun s' => typeIs_int s' k t) noFill_list_mul F.fills_int_mul F.slot_int_rmul repeat_list F.slot_int_index.lookup
    (call_meets F.slot_int_rmul (typeIs_int s k t) F.entry_int_rmul (F.args_int_rmul_2 _ _) (int___rmul___int_list k t l its.toArray n)
      ⟨e, rfl, ⟨_, e, rfl⟩, call_meets F.slot_list_mul ⟨_, e, rfl⟩ F.entry_list_mul (F.args_list_mul_2 _ _) (AutoListH.list___mul___list_int_3 l its.toArray n k t hfit hcap hlong) ⟨e, ?_⟩⟩)
  rw [hnew]
  exact ⟨.ref _, _, I.lnew (t' := s.toks) (r.rep k.toNat) (by rw [len_rep, Nat.mul_comm]; exact hz), rfl, q _ I.fresh⟩
end
section
variable {prog : Program} {w : World} {A : Around} {E : Value → Shared → Prop} {s : Shared}
set_option maxRecDepth 100000 in
end
section
variable {X : Cx}
end
end L2
namespace Att
open PySem PySem.W PySem.Calls PyProof.Rows
theorem ints_of_wellAll {P : Params} {h : Heap} : ∀ (ns : List Int) (vs : List Value), WellAll P h vs (ns.map WData.int) → IntsAre vs ns := by
  intro ns
  induction ns with
  | nil =>
    intro vs w
    rw [List.map_nil] at w
    cases w
    exact .nil
  | cons n ns ih =>
    intro vs w
    rw [List.map_cons] at w
    cases w with
    | cons a b =>
      cases a
      exact .cons _ _ (ih _ b)
theorem script_of {l : OpenLaw} {n : Nat} (hn : l.most = some n) {P : Params} {h : Heap} {args : List WData} {vals : List Value}
    (hpre : l.row.toRowW.claim.pre args = true) (hwl : WellAll P h vals args) :
    ∃ a vs ns, vals = [Value.ref a] ∧ args = [WData.list (ns.map WData.int)] ∧ h.get? a = some { cls := .type "list", data := .seq vs.toArray } ∧ IntsAre vs ns ∧ ns.length ≤ n := by
  have hsh : WShape.hasAll [] args [.list .int] = true := (pre_splitW hpre).1
  have hc : l.pre.holds [] { args := args } = true := (pre_splitW hpre).2
  obtain ⟨d, r, rfl, h1, h2⟩ := hasAllW_cons hsh
  obtain rfl := hasAllW_nil h2
  obtain ⟨xs, rfl, h3⟩ := hasW_list h1
  obtain ⟨ns, rfl⟩ := items_int h3
  have hlen : ns.length ≤ n := by
    unfold OpenLaw.pre at hc
    have h4 : (WTm.not (.lt (.lit (.int (n : Int))) (.len (.arg 0)))).holds [] { args := [.list (ns.map .int)] } = true := by
      have h4 := (holds_andW hc).1
      rw [hn] at h4
      exact h4
    have h5 := condW_of h4 (w_not (w_lt w_lit (w_len_list (w_arg rfl))))
    rw [List.length_map] at h5
    refine Nat.le_of_not_lt fun q => ?_
    have q' : (n : Int) < ((ns.length : Nat) : Int) := by omega
    first
      | (rw [decide_eq_true q'] at h5; exact absurd h5 (by decide))
      | (simp at h5; omega)
  cases hwl with
  | cons w1 w2 =>
    cases w2
    cases w1 with
    | list ho hall => exact ⟨_, _, ns, rfl, rfl, ho, ints_of_wellAll ns _ hall, hlen⟩
theorem post_true (l : OpenLaw) (args : List WData) : l.row.toRowW.claim.post args (.bool true) args = true :=
  postW_of (r := l.row.toRowW) (X := (true == true))
    (show WShape.has [] (.bool true) .bool = true by first | rfl | decide | simp [WShape.has, WShape.arms, WShape.armsAll])
    (show (WTm.eq .res (.lit (.bool true))).value [] { args := args, res := some (.bool true), after := args } = some (.bool (true == true)) from w_eq_bool (w_res rfl) w_lit) rfl
theorem attach_call {l : OpenLaw} {n : Nat} {q : Program} {loose : List Str} {XP : (Str → Option Value) → Heap → Prop} {YP : World → Heap → Prop} {d : DefRec}
    (hn : l.most = some n) (hdf : d.params.defaults = [])
    (call : ∀ (w : World) (s₀ s₁ : Shared) (mg mb : Str → Option Value) (fa : Addr) (o : Obj) (pm cd doc : Value) (a : Addr) (vs : List Value) (ns : List Int),
      Ground q loose [] XP w s₀ mg mb s₁.heap → YP w s₁.heap →
      s₁.heap.get? fa = some o → o.data = .func (docDef d.name d.params d.body d.scope pm cd doc) → s₁.heap.CodeRec cd d.name → mg d.name = some (.ref fa) →
      s₁.heap.get? a = some { cls := .type "list", data := .seq vs.toArray } → IntsAre vs ns → ns.length ≤ n → s₁.gens = #[] →
      codeAny (model l.prog w) callerA (.call (.ref fa) ⟨[.ref a], []⟩) (fun r s' => r = .ok (.ret (.bool true)) ∧ OldK s₁.heap s'.heap ∧ s'.os = s₁.os ∧ AllBare s'.gens) s₁) :
    WalkO q loose XP YP l.row.toRowW d [] (fun f vs => PySem.call f vs) := by
  intro w s₀ s₁ mg mb G Y fa o pm cd doc dV kV ho hd hcd hD hmg hg args vals as hpre hlay hrd hwl hlo
  obtain rfl : dV = .none := Dflts.none hD hdf
  obtain rfl : kV = .none := Dflts.noKw hD
  obtain ⟨a, vs, ns, rfl, rfl, hobj, hints, hlen⟩ := script_of hn hpre hwl
  refine enter_call (codeAny_mono (call w s₀ s₁ mg mb fa o pm cd doc a vs ns G Y ho (fd_plain hd) hcd hmg hobj hints hlen hg) fun r s' hq => ?_)
  obtain ⟨rfl, h2, h3, h4⟩ := hq
  exact ⟨.inl ⟨.bool true, .bool true, [], rfl, fun _ => rfl, .bool true, post_true l _, fun _ => ⟨List.Pairwise.nil, fun _ hm => (nomatch hm)⟩⟩, h2, h3, h4⟩
section
variable {prog : Program} {w : World} {A : Around} {E : Value → Shared → Prop} {s : Shared} {K : Frag}
def ledger (h : Heap) (L d : Addr) : List (Addr × Obj) := (List.range h.objs.size).filterMap fun a => if a = L ∨ a = d then none else (h.get? a).map fun o => (a, o)
end
end Att
namespace L2
open PySem PySem.Spec PyProof.Rows
theorem vals_ints : ∀ {vs : List Value} {ns : List Int}, IntsAre vs ns → Vals (ns.map V.int) vs
  | _, _, .nil => .nil
  | _, _, .cons n t h => .cons ⟨t, rfl⟩ (vals_ints h)
end L2
namespace L2
open PySem PySem.Spec PyProof.Rows
end L2
namespace L2
open PySem PySem.Spec PyProof.Rows
def defArgs (s : Stmt) : Arguments := match s with
  | .FunctionDef _ a _ _ _ _ _ _ _ _ => a
  | _ => { posonlyargs := [], args := [], vararg := none, kwonlyargs := [], kw_defaults := [], kwarg := none, defaults := [] }
def defBody (s : Stmt) : List Stmt := match s with
  | .FunctionDef _ _ b _ _ _ _ _ _ _ => b
  | _ => []
def defScope (s : Stmt) : Scope := match s with
  | .FunctionDef _ _ _ _ _ _ sc _ _ _ => sc
  | _ => { kind := .function, names := [], isGenerator := false, isCoroutine := false }
abbrev CX0 : CXT := fun _ _ _ _ _ _ => False
abbrev E0 : XK := fun _ _ _ => False
theorem pass0 {X : Cx} : Passes CX0 X E0 := fun _ _ _ _ _ _ _ h => h.elim
structure Fun (K : PySem.W.Frag) (x qual : Str) (st : Stmt) (f : Addr) (fd : FuncData) : Prop where
  ex : ∃ (oc : Value) (od : Option Addr) (kV doc pm : Value) (an : Option Addr) (cdv ct : Value) (osl : Array (Option Value)),
    fd = PySem.W.fnOf x qual (defArgs st) (defBody st) (defScope st) .none kV doc pm an cdv ct ∧ K.lookup f = some ⟨oc, od, .func fd, osl⟩ ∧ PySem.W.codeIn K cdv qual = true
  kp : PySem.W.keepIn K (.ref f) = true
section
variable {P : Program} {w : World} {K : PySem.W.Frag} {mg : Str → Option Value} {base : Heap}
theorem Fun.ok {x qual : Str} {st : Stmt} {f : Addr} {fd : FuncData} {N ps : List Str} {k : Nat} {sp : Sp} (F : Fun K x qual st f fd) (S : FnScope N ps (defScope st)) (len : ∀ vs H Q E, sp vs H Q E → vs.length = ps.length)
    (hbody : ∀ (cdv : Value) (A : Around) (outer : List Env) (s : Shared) (H : Hp) (vs : List V) (Q : VK) (E : XK), Room k (A.deeper (envOfC qual (defScope st) s.heap.objs.size f cdv)) → sp vs H Q E →
      ∃ t, PSs (cxOf CX0 P w K mg base N qual (defScope st) f cdv A outer s H E).nox (defBody st) t ∧ t { nx := fun _ H' => Q .non H', rt := Q } (start N vs) H) : FnOk P w K mg base CX0 (k + 1) f fd ps sp := by
  obtain ⟨oc, od, kV, doc, pm, an, cdv, ct, osl, rfl, lk, hcd⟩ := F.ex
  refine fn_of lk hcd S len fun A outer s H vs Q E hr hsp => ?_
  obtain ⟨t, h, q⟩ := hbody cdv A outer s H vs Q E hr hsp
  exact ⟨t, h.nox, q⟩
theorem Fun.binds {x qual : Str} {st : Stmt} {f : Addr} {fd : FuncData} {ps : List Str} (F : Fun K x qual st f fd)
    (h : ∀ (kV doc pm : Value) (an : Option Addr) (cdv ct : Value) (us : List Value), us.length = ps.length → bindArgs (PySem.W.fnOf x qual (defArgs st) (defBody st) (defScope st) .none kV doc pm an cdv ct) ⟨us, []⟩ = pure (ps.zip us)) : Binds K fd ps [] := by
  obtain ⟨oc, od, kV, doc, pm, an, cdv, ct, osl, rfl, lk, hcd⟩ := F.ex
  exact .all (h kV doc pm an cdv ct)
theorem fun_mk {x qual : Str} {st : Stmt} {f : Addr} {oc : Value} {od an : Option Addr} {osl : Array (Option Value)} {kV doc pm cdv ct : Value} (l : K.lookup f = some ⟨oc, od, .func (PySem.W.fnOf x qual (defArgs st) (defBody st) (defScope st) .none kV doc pm an cdv ct), osl⟩)
    (c : PySem.W.codeIn K cdv qual = true) (k : PySem.W.keepIn K (.ref f) = true) : Fun K x qual st f (PySem.W.fnOf x qual (defArgs st) (defBody st) (defScope st) .none kV doc pm an cdv ct) := ⟨⟨oc, od, kV, doc, pm, an, cdv, ct, osl, rfl, l, c⟩, k⟩
end
section
variable {X : Cx}
theorem pv (i : Nat) {x : Str} {pos : Pos} (hN : X.N[i]? = some x := by rfl) (hv : Vis X.env.scope x := by first | exact Or.inl rfl | exact Or.inr (Or.inl rfl) | exact Or.inr (Or.inr rfl)) (hd : (x == ("__debug__" : Str)) = false := by decide)
    (hcd : (x == ("__classdict__" : Str)) = false := by decide) : PE X (.Name x pos) (tVar i) := pe_var hN hv hd hcd
end
def Same (H H' : Hp) : Prop := ∀ b o, H b = some o → H' b = some o
theorem Same.refl (H : Hp) : Same H H := fun _ _ h => h
theorem Same.trans {H H1 H2 : Hp} (a : Same H H1) (b : Same H1 H2) : Same H H2 := fun c o h => b c o (a c o h)
theorem Same.free {H H' : Hp} (e : Same H H') {l : Addr} (h : H' l = Option.none) : H l = Option.none := by
  cases q : H l with
  | none => rfl
  | some o =>
    rw [e l o q] at h
    cases h
theorem Same.seq {K : PySem.W.Frag} {H H' : Hp} {a : Addr} {xs : List V} (e : Same H H') (h : SqL K H a xs) : SqL K H' a xs := by
  rcases h with (h | ⟨o, h⟩) | h
  · exact .inl (.inl (e _ _ h))
  · exact .inl (.inr ⟨o, e _ _ h⟩)
  · exact .inr h
end L2
set_option Elab.async false
set_option linter.all false
set_option maxRecDepth 100000
set_option maxHeartbeats 4000000
namespace L2
open PySem PySem.Spec PyProof.Rows
theorem loop_comp {prog : Program} {w : World} {A : Around} {R : Result → Shared → Prop} {s : Shared} {elt target iter : Expr} {ifs : List Expr} {scope : Scope} {pos : Pos} {it acc : Value} {env : Env} (I : Nat → Shared → Prop)
    (turn : ∀ n s, I n s → wpAny (model prog w) A (pyNext it) (fun r s₁ => match r with
      | none => R (.ok .next) s₁
      | some v => wpAny (model prog w) A (letOwnedTupleGo target it v) (fun _ s₁' => wpAny (model prog w) A (assign target env v) (fun _ s₂ =>
          wpAny (model prog w) A (forIn ifs true fun c r => if r = true then do let ok ← isTrue c env (eval c env); pure (ForInStep.yield ok) else pure (ForInStep.yield r)) (fun ok s₃ =>
            if ok = true then wpAny (model prog w) A (eval elt env) (fun x s₄ =>
              wpAny (model prog w) A (call (.builtin "list.append") [acc, x]) (fun _ s₅ => ∃ m, m < n ∧ I m s₅) (fun _ _ => False) s₄) (fun _ _ => False) s₃
            else ∃ m, m < n ∧ I m s₃) (fun _ _ => False) s₂) (fun _ _ => False) s₁') (fun _ _ => False) s₁) (fun _ _ => False) s)
    (n : Nat) (h : I n s) :
    codeAny (model prog w) A (.compLoop (.ListComp elt [⟨target, iter, ifs, 0⟩] scope pos) 0 it acc env) R s := by
  refine codeAny_loop rfl I (fun n s hI => ?_) n h
  show wpAny _ A ((compTurn (.ListComp elt [⟨target, iter, ifs, 0⟩] scope pos) 0 it acc env).onRaise (fun x => do noteFrame x env; theTreesLotGoes x)) _ _ s
  refine wpAny_noted ?_
  rw [compTurn_list]
  refine wpAny_bind (wpAny_standAt (wpAny_bind (wpAny_mono (turn n s hI) (fun r s₁ h₁ => ?_) fun _ _ h' => h'.elim)))
  cases r with
  | none => exact wpAny_pure h₁
  | some v =>
    refine wpAny_bind (wpAny_mono h₁ (fun _ s₁' h₁' => ?_) fun _ _ h' => h'.elim)
    refine wpAny_bind (wpAny_mono h₁' (fun _ s₂ h₂ => wpAny_bind (wpAny_mono h₂ (fun ok s₃ h₃ => ?_) fun _ _ h' => h'.elim)) fun _ _ h' => h'.elim)
    cases ok with
    | false => exact wpAny_pure ⟨rfl, h₃⟩
    | true =>
      exact wpAny_bind (wpAny_bind (wpAny_mono h₃ (fun x s₄ h₄ => wpAny_bind (wpAny_mono h₄ (fun _ s₅ h₅ => wpAny_pure (wpAny_pure ⟨rfl, h₅⟩)) fun _ _ h' => h'.elim)) fun _ _ h' => h'.elim))
def clOf (names : List (Str × NameKind)) (env : Env) (cs : List (Str × Addr)) : List (Str × Addr) :=
  names.foldl (fun cs p => if p.2 = .free then (match env.cells.lookup p.1 with | some c => (p.1, c) :: cs | none => cs) else cs) cs
theorem closure_loop {env : Env} : ∀ (names : List (Str × NameKind)) (cs : List (Str × Addr)), (∀ y ∈ names, y.2 = .free → ∃ c, env.cells.lookup y.1 = some c) →
    (forIn names cs fun x r => (if (x.2 == NameKind.free) = true then do let a ← cellOf env x.1; pure (ForInStep.yield ((x.1, a) :: r)) else pure (ForInStep.yield r) : Sem _)) = pure (clOf names env cs)
  | [], cs, _ => by simp [clOf]
  | (n, k) :: r, cs, h => by
    have ih := fun cs => closure_loop r cs fun y hy => h y (List.mem_cons_of_mem _ hy)
    simp only [List.forIn_cons]
    by_cases hk : k = .free
    · subst hk
      obtain ⟨c, e⟩ := h (n, .free) List.mem_cons_self rfl
      have e' : env.cells.lookup n = some c := e
      have ec : cellOf env n = pure c := by unfold cellOf; rw [e']
      simp only [beq_self_eq_true, if_true, ec, pure_bind]
      rw [ih]
      simp [clOf, e']
    · have hb : (k == NameKind.free) = false := by simpa using hk
      simp only [hb, Bool.false_eq_true, if_false, pure_bind]
      rw [ih]
      simp [clOf, hk]
theorem closureFor_eq {scope : Scope} {env : Env} (h : ∀ y ∈ scope.names, y.2 = .free → ∃ c, env.cells.lookup y.1 = some c) : closureFor scope env = pure (clOf scope.names env []) := by
  unfold closureFor
  have := closure_loop scope.names [] h
  simp only [bind_pure]
  exact this
theorem clOf_mem {env : Env} : ∀ (names : List (Str × NameKind)) (cs : List (Str × Addr)) (x : Str) (c : Addr), (x, c) ∈ clOf names env cs → (x, c) ∈ cs ∨ env.cells.lookup x = some c
  | [], cs, x, c, h => .inl h
  | (n, k) :: r, cs, x, c, h => by
    have h' : (x, c) ∈ clOf r env (if k = .free then (match env.cells.lookup n with | some c => (n, c) :: cs | none => cs) else cs) := h
    rcases clOf_mem r _ x c h' with q | q
    · split at q
      · cases e : env.cells.lookup n with
        | none => rw [e] at q; exact .inl q
        | some d =>
          rw [e] at q
          rcases List.mem_cons.mp q with z | z
          · cases z; exact .inr e
          · exact .inl z
      · exact .inl q
    · exact .inr q
theorem clOf_keep {env : Env} : ∀ (names : List (Str × NameKind)) (cs : List (Str × Addr)) (x : Str), (∃ c, (x, c) ∈ cs) → ∃ c, (x, c) ∈ clOf names env cs
  | [], cs, x, h => h
  | (n, k) :: r, cs, x, ⟨c, h⟩ => by
    refine clOf_keep r _ x ?_
    dsimp only
    split
    · split
      · exact ⟨c, List.mem_cons_of_mem _ h⟩
      · exact ⟨c, h⟩
    · exact ⟨c, h⟩
theorem clOf_has {env : Env} : ∀ (names : List (Str × NameKind)) (cs : List (Str × Addr)) (x : Str), (x, NameKind.free) ∈ names → (∃ c, env.cells.lookup x = some c) → ∃ c, (x, c) ∈ clOf names env cs
  | [], _, _, h, _ => by simp at h
  | (n, k) :: r, cs, x, h, ⟨c, e⟩ => by
    rcases List.mem_cons.mp h with z | z
    · have e1 : x = n := congrArg Prod.fst z
      have e2 : NameKind.free = k := congrArg Prod.snd z
      subst e1 e2
      refine clOf_keep r _ x ⟨c, ?_⟩
      dsimp only
      rw [if_pos rfl, e]
      exact List.mem_cons_self
    · exact clOf_has r _ x z ⟨c, e⟩
theorem lookup_of_mem {β : Type} : ∀ (l : List (Str × β)) (x : Str) (c : β), (x, c) ∈ l → ∃ d, l.lookup x = some d
  | (n, d) :: r, x, c, h => by
    cases hx : x == n with
    | true => exact ⟨d, by simp [List.lookup_cons, hx]⟩
    | false =>
      simp only [List.lookup_cons, hx]
      rcases List.mem_cons.mp h with z | z
      · cases z; simp at hx
      · exact lookup_of_mem r x c z
theorem clOf_lookup {names : List (Str × NameKind)} {env : Env} {x : Str} {c : Addr} (h : (clOf names env []).lookup x = some c) : env.cells.lookup x = some c := by
  rcases clOf_mem names [] x c (PySem.mem_of_lookup h) with q | q
  · simp at q
  · exact q
theorem clOf_some {names : List (Str × NameKind)} {env : Env} {x : Str} {c : Addr} (h : (x, NameKind.free) ∈ names) (e : env.cells.lookup x = some c) : (clOf names env []).lookup x = some c := by
  obtain ⟨d, hd⟩ := clOf_has names [] x h ⟨c, e⟩
  obtain ⟨d', hd'⟩ := lookup_of_mem _ _ _ hd
  have := clOf_lookup hd'
  rw [e] at this
  cases this
  exact hd'
theorem lookup_relabel_free {env : Env} : ∀ {names : List (Str × NameKind)} {x : Str}, names.lookup x = some .free →
    (names.map fun (n, k) => if (k == NameKind.free && env.scope.kind == .function && env.kindOf n == some .cell) then (n, NameKind.cell) else (n, k)).lookup x = some .cell ∨
    (names.map fun (n, k) => if (k == NameKind.free && env.scope.kind == .function && env.kindOf n == some .cell) then (n, NameKind.cell) else (n, k)).lookup x = some .free
  | [], _, h => by simp at h
  | (n, k) :: r, x, h => by
    have ih := @lookup_relabel_free env r x
    show List.lookup x ((if (k == NameKind.free && env.scope.kind == .function && env.kindOf n == some .cell) = true then (n, NameKind.cell) else (n, k)) :: _) = _ ∨ List.lookup x ((if (k == NameKind.free && env.scope.kind == .function && env.kindOf n == some .cell) = true then (n, NameKind.cell) else (n, k)) :: _) = _
    by_cases hc : (k == NameKind.free && env.scope.kind == .function && env.kindOf n == some .cell) = true
    · rw [if_pos hc]
      cases hx : x == n with
      | true => left; simp [List.lookup_cons, hx]
      | false =>
        simp only [List.lookup_cons, hx] at h ⊢
        exact ih h
    · rw [if_neg hc]
      cases hx : x == n with
      | true =>
        simp only [List.lookup_cons, hx] at h
        cases h
        right; simp [List.lookup_cons, hx]
      | false =>
        simp only [List.lookup_cons, hx] at h ⊢
        exact ih h
structure CompScope (own : List Str) (caps : List Nat) (N : List Str) (sc scope : Scope) : Prop where
  kind : scope.kind = .function
  nocell : ∀ y ∈ scope.names, y.2 ≠ .cell
  loc : ∀ y ∈ scope.names, y.2 = .local → scope.names.lookup y.1 = some .local
  fr : ∀ y ∈ scope.names, y.2 = .free → sc.names.lookup y.1 = some .cell ∨ sc.names.lookup y.1 = some .free
  cap : ∀ i ∈ caps, i < N.length ∧ scope.names.lookup ((N[i]?).getD Str.empty) = some .free
def cxComp (X : Cx) (own : List Str) (caps : List Nat) (scope : Scope) (s : Shared) (H : Hp) (fp : List Addr) (C : Addr) : Cx :=
  { X with N := own ++ caps.map (fun i => (X.N[i]?).getD Str.empty), s₀ := s, H₀ := H, env := compEnvC scope (clOf scope.names X.env []) C X.env, outer := X.stack, ex := fp, fn := fun _ => false, pn := [], xe := fun _ _ => False }
def tau0 (n : Nat) (caps : List Nat) (σ : St) : St := List.replicate n none ++ caps.map fun i => (σ[i]?).join
section
variable {X : Cx} {pins : List (Addr × Obj)} {σ : St} {H : Hp} {s : Shared}
theorem free_of_kind {scope : Scope} {env : Env} (nc : ∀ y ∈ scope.names, y.2 ≠ .cell) {x : Str} {k : NameKind} (hk : k = .cell ∨ k = .free) (h : (relabel scope env).names.lookup x = some k) : (x, NameKind.free) ∈ scope.names := by
  have hm := PySem.mem_of_lookup h
  obtain ⟨⟨n, k0⟩, hy, e⟩ := List.mem_map.mp hm
  dsimp only at e
  split at e
  · rename_i hc
    simp only [Bool.and_eq_true, beq_iff_eq] at hc
    have e1 : n = x := congrArg Prod.fst e
    subst e1
    rw [hc.1.1] at hy
    exact hy
  · cases e
    rcases hk with z | z
    · subst z; exact absurd rfl (nc _ hy)
    · subst z; exact hy
theorem inv_comp {own : List Str} {caps : List Nat} {scope : Scope} {fp : List Addr} {D C : Addr} {o : Obj} {h1 : Heap} {tk : Nat} (I : Inv X pins σ H s) (S : CompScope own caps X.N X.env.scope scope)
    (f : ∀ b ∈ fp, FpOk X pins H b) (fl : ∀ b ∈ fp, b < s.heap.objs.size) (hD : s.heap.objs.size ≤ D) (hC : s.heap.objs.size ≤ C) (hDC : D ≠ C) (keep : ∀ b o, s.heap.get? b = some o → h1.get? b = some o)
    (hns : h1.Ns C fun _ => none) (hacc : h1.get? D = some o) (ho : ∀ v, o.data ≠ .cell v) :
    Inv (cxComp X own caps scope s H fp C) [(D, o)] (tau0 own.length caps σ) H { s with heap := h1, toks := tk } := by
  have sub : ∀ b ∈ frs X.stack, b < s.heap.objs.size := fun b hb => by
    rcases List.mem_cons.mp (I.stkSub b hb) with e | hb
    · rw [e]; exact I.lt
    · by_cases q : b < s.heap.objs.size
      · exact q
      · exact absurd hb (I.nofs (Nat.le_of_not_lt q))
  refine ⟨⟨I.ok.mod, S.kind, I.ok.glob, I.ok.blt, hC, fun x y c h1 h2 => I.ok.inj x y c (clOf_lookup h1) (clOf_lookup h2), fun x hx => ?_, fun x c z _ => absurd (show false = true from z) Bool.false_ne_true, I.ok.hd, I.ok.frames, .inl rfl,
      fun b hb => ⟨Nat.ne_of_lt (Nat.lt_of_lt_of_le (fl b hb) hC), fun x c e => (f b hb).2.2.2.2.1 x c (clOf_lookup e)⟩, I.bs, Nat.le_trans I.ok.bsz I.sz, fun b ob e hb => ?_, fun b hb hs => ?_, I.stack, I.stkFree⟩,
    rfl, I.bare, Un.kept keep, ⟨_, hns, fun i x v e1 e2 e3 => ?_⟩, fun x c e => ?_, I.hok.fresh hC, fun x c e => I.freeC x c (clOf_lookup e), fun p hp => ?_, I.hok.kept keep, ?_⟩
  · have hm : (x, NameKind.free) ∈ scope.names := by
      rcases hx with hx | hx
      · exact free_of_kind S.nocell (.inl rfl) hx
      · exact free_of_kind S.nocell (.inr rfl) hx
    obtain ⟨c, hc⟩ := I.ok.has x (S.fr _ hm rfl)
    exact ⟨c, clOf_some hm hc⟩
  · rcases (f b hb).2.2.2.1 with z | z
    · exact I.ok.noex b ob e z
    · exact absurd (Nat.lt_of_lt_of_le (Heap.lt_size e) (Nat.le_trans I.ok.bsz z)) (Nat.lt_irrefl _)
  · rcases List.mem_cons.mp (I.stkSub b hs) with e | e
    · exact (f b hb).2.1 e
    · exact (f b hb).2.2.1 e
  · have e2' : (List.replicate own.length (none : Option V) ++ caps.map fun i => (σ[i]?).join)[i]? = some (some v) := e2
    have e1' : (own ++ caps.map (fun i => (X.N[i]?).getD Str.empty))[i]? = some x := e1
    have hi : own.length ≤ i := by
      by_cases q : i < own.length
      · rw [List.getElem?_append_left (by simpa using q), List.getElem?_replicate, if_pos q] at e2'
        cases e2'
      · exact Nat.le_of_not_lt q
    rw [List.getElem?_append_right (by simpa using hi), List.length_replicate, List.getElem?_map] at e2'
    rw [List.getElem?_append_right hi, List.getElem?_map] at e1'
    cases ek : caps[i - own.length]? with
    | none => rw [ek] at e1'; cases e1'
    | some k =>
      rw [ek] at e1' e2'
      have ex : (X.N[k]?).getD Str.empty = x := Option.some.inj e1'
      have ev : (σ[k]?).join = some v := Option.some.inj e2'
      have ev' : σ[k]? = some (some v) := by
        cases q : σ[k]? with
        | none => rw [q] at ev; cases ev
        | some y => rw [q] at ev; exact congrArg some ev
      obtain ⟨hl, hf⟩ := S.cap k (List.mem_of_getElem? ek)
      have eN : X.N[k]? = some x := by
        rw [List.getElem?_eq_getElem hl] at ex ⊢
        exact congrArg some ex
      rw [ex] at hf
      have hm := PySem.mem_of_lookup hf
      have hfr := S.fr _ hm rfl
      obtain ⟨m, _, hl'⟩ := I.loc
      obtain ⟨u, ru, lk⟩ := hl' k x v eN ev' (.inr hfr)
      refine ⟨u, ru, .inr ⟨lookup_relabel_free hf, ?_⟩⟩
      rcases lk with ⟨kl, _⟩ | ⟨_, c, hc, ob, hob, hd⟩
      · have kl' : X.env.scope.names.lookup x = some .local := kl
        rcases hfr with z | z
        · have z' : X.env.scope.names.lookup x = some .cell := z
          rw [z'] at kl'; cases kl'
        · have z' : X.env.scope.names.lookup x = some .free := z
          rw [z'] at kl'; cases kl'
      · exact ⟨c, clOf_some hm hc, ob, keep c ob hob, hd⟩
  · obtain ⟨v, ob, hob, hd⟩ := I.cell x c (clOf_lookup e)
    exact ⟨v, ob, keep c ob hob, hd⟩
  · have e : p = (D, o) := by simpa using (show p ∈ [] ++ [(D, o)] from hp)
    subst e
    refine ⟨hacc, I.hok.fresh hD, hDC, fun z => ?_, ho⟩
    exact absurd (Nat.lt_of_lt_of_le (sub D z) hD) (Nat.lt_irrefl _)
  · show (tau0 own.length caps σ).length = (own ++ caps.map (fun i => (X.N[i]?).getD Str.empty)).length
    simp [tau0]
def PTs (X : Cx) (ifs : List Expr) (t : TT) : Prop :=
  ∀ (pins : List (Addr × Obj)) (s : Shared) (σ : St) (H : Hp) (Q : Bool → Hp → Prop), Inv X pins σ H s → t σ H Q →
    wpAny (model X.prog X.w) X.A (forIn ifs true fun c r => if r = true then do let ok ← isTrue c X.env (eval c X.env); pure (ForInStep.yield ok) else pure (ForInStep.yield r)) (TP X pins σ Q) X.xe s
def tYes : TT := fun _ H Q => Q true H
theorem pts_nil : PTs X [] tYes := fun _ s σ H Q I h => wpAny_tests_nil ⟨H, I, h⟩
def tComp (n : Nat) (caps : List Nat) (wi : TI) (g : TG) (tc : TT) (te : TE) : TE := fun σ H Q => wi σ H fun J H1 => ∃ W : Nat → Nat → St → List V → Hp → Prop, (∃ m, W 0 m (tau0 n caps σ) [] H1) ∧ ∀ i m τ acc H, W i m τ acc H →
  (J.stop i H ∧ acc.length ≤ sizeLine ∧ ∀ p, H p = none → Q (.ref p) (upd H p (.lst acc))) ∨
  (J.go i H ∧ acc.length < sizeLine ∧ ∀ x H', J.yld i H x H' → g x τ H' fun τ2 H2 => tc τ2 H2 fun b H3 => if b = true then te τ2 H3 fun y H4 => ∃ m', m' < m ∧ W (i + 1) m' τ2 (acc ++ [y]) H4 else ∃ m', m' < m ∧ W (i + 1) m' τ2 acc H3)
theorem HOk.track {P : Program} {w : World} {H : Hp} {h : Heap} {a : Addr} {o : HO} (x : HOk P w H h) (hn : H a = none) (new : ObjOk P w (upd H a o) h a o) : HOk P w (upd H a o) h := fun b u e => by
  by_cases hb : b = a
  · subst hb; rw [upd_same] at e; cases e; exact new
  · rw [upd_ne hb] at e
    exact (x b u e).stay (fun c v _ q => q) (fun c q => by rw [upd_ne (ne_of_none q hn)]; exact q) fun c xs q => by rw [upd_ne (ne_of_none q hn)]; exact q
theorem pe_comp {own : List Str} {caps : List Nat} {elt tg iter : Expr} {ifs : List Expr} {scope : Scope} {pos : Pos} {wi : TI} {g : TG} {tc : TT} {te : TE} (hc : X.calm = true) (S : CompScope own caps X.N X.env.scope scope) (hi : PI X tg iter wi)
    (hg : ∀ s H fp C, PG (cxComp X own caps scope s H fp C) tg g) (ht : ∀ s H fp C, PTs (cxComp X own caps scope s H fp C) ifs tc) (he : ∀ s H fp C, PE (cxComp X own caps scope s H fp C) elt te)
    (hs : ∀ x, foldedSetIterable iter X.env x = pure x := by intro _; rfl) : PE X (.ListComp elt [⟨tg, iter, ifs, 0⟩] scope pos) (tComp own.length caps wi g tc te) := by
  intro pins s σ H Q I h
  rw [eval_ListComp]
  refine wpAny_comprehension_free (use := none) (cl := clOf scope.names X.env []) rfl hs (closureFor_eq fun y hy e => I.ok.has y.1 (S.fr y hy e)) S.kind S.loc
    (wpAny_mono (hi pins s σ H _ I h) (fun v s1 h1 => thn h1 fun itv s2 h2 => ?_) fun _ _ e => e)
  obtain ⟨it, fp, tn, J, H2, e, I2, T, st2, f2, W, ⟨m0, w0⟩, turn⟩ := h2
  subst e
  refine wpAny_newObj_type (wpAny_newFunctionEnv S.nocell (by intro y hy; simp at hy) (fun h₁ hns₁ hsb₁ => ?_) S.kind)
  dsimp only at hns₁ hsb₁ ⊢
  generalize hH2 : s2.heap.push { cls := .type "list", dict := none, data := .seq ([] : List Value).toArray } = G at hns₁ hsb₁ ⊢
  have hG : G.objs.size = s2.heap.objs.size + 1 := by rw [← hH2, Heap.size_push]
  have hDC : s2.heap.objs.size ≠ G.objs.size := by rw [hG]; exact Nat.ne_of_lt (Nat.lt_succ_self _)
  have hCle : s2.heap.objs.size ≤ G.objs.size := by rw [hG]; exact Nat.le_succ _
  have below : ∀ b, b < s2.heap.objs.size → b ≠ G.objs.size := fun b hb => by rw [hG]; exact Nat.ne_of_lt (Nat.lt_succ_of_lt hb)
  have old : ∀ b o, s2.heap.get? b = some o → h₁.get? b = some o := fun b o e => hsb₁.extBut b o (below b (Heap.lt_size e)) (Heap.get?_push_of_some _ (hH2 ▸ Heap.get?_push_of_some _ e))
  have hacc : h₁.get? s2.heap.objs.size = some { cls := .type "list", dict := none, data := .seq ([] : List Value).toArray } := hsb₁.extBut _ _ hDC (Heap.get?_push_of_some _ (hH2 ▸ Heap.get?_push_size _ rfl))
  have fl : ∀ b ∈ fp, b < s2.heap.objs.size := fun b hb => let ⟨o, e, _⟩ := T.obj _ _ st2 b hb; Heap.lt_size e
  have hns₁' : h₁.Ns G.objs.size fun _ => none := hns₁
  have I4 := inv_comp (tk := s2.toks + ([] : List (Str × Value)).length) I2 S f2 fl (Nat.le_refl _) hCle hDC old hns₁' hacc (fun v z => nomatch z)
  have st4 : tn 0 h₁ := T.keep _ _ _ st2 fun b _ o e => old b o e
  generalize hs4 : ({ s2 with heap := h₁, toks := s2.toks + ([] : List (Str × Value)).length } : Shared) = s4 at I4 ⊢
  have e4 : s4.heap = h₁ := by rw [← hs4]
  rw [← e4] at st4
  -- the loop
  have loop : codeAny (model X.prog X.w) X.A (.compLoop (.ListComp elt [⟨tg, iter, ifs, 0⟩] scope pos) 0 (.ref it) (.ref s2.heap.objs.size) (compEnvC scope (clOf scope.names X.env []) G.objs.size X.env))
      (compPost (model X.prog X.w) X.A X.xe none (EP X pins σ Q) (.ref s2.heap.objs.size) G.objs.size) s4 := by
    let Y := cxComp X own caps scope s2 H2 fp G.objs.size
    have stat : ∀ {H' : Hp} {its : List Value} {n : Nat}, (∀ b ∈ fp, H' b = none) → ∀ b ∈ fp, FpOk Y [(s2.heap.objs.size, ({ cls := .type "list", data := .seq its.toArray n } : Obj))] H' b := fun {H' its n} hn b hb => by
      refine ⟨hn b hb, below b (fl b hb), fun z => ?_, .inl hb, fun x c e => (f2 b hb).2.2.2.2.1 x c (clOf_lookup e), fun p hp => ?_⟩
      · rcases List.mem_cons.mp (I2.stkSub b z) with e | e
        · exact (f2 b hb).2.1 e
        · exact (f2 b hb).2.2.1 e
      · have e : p = (s2.heap.objs.size, ({ cls := .type "list", data := .seq its.toArray n } : Obj)) := by simpa using (show p ∈ [] ++ [_] from hp)
        subst e
        exact Nat.ne_of_gt (fl b hb)
    refine loop_comp (fun n s' => ∃ i τ acc its k H', Inv Y [(s2.heap.objs.size, ({ cls := .type "list", data := .seq its.toArray k } : Obj))] τ H' s' ∧ tn i s'.heap ∧ (∀ b ∈ fp, H' b = none) ∧ Vals acc its ∧ W i n τ acc H') ?_ m0
      ⟨0, _, [], [], 0, H2, I4, st4, fun b hb => (f2 b hb).1, .nil, w0⟩
    rintro n s5 ⟨i, τ, acc, its, k, H5, I5, st5, fr5, rv5, w5⟩
    rcases turn i n τ acc H5 w5 with ⟨stop, hz, q⟩ | ⟨go, hz, step⟩
    · refine thn (T.done Y rfl rfl rfl hc i _ s5 τ H5 (fun _ _ => False) I5 (stat fr5) st5 stop) fun r s6 ⟨hr, I6⟩ => ?_
      subst hr
      obtain ⟨eD, nD, _, _, _⟩ := I6.pin _ (List.mem_append_right _ (List.mem_singleton.mpr rfl))
      obtain ⟨m6, hm6, _⟩ := I6.loc
      refine ⟨m6, hm6, fun h' hsb => ?_⟩
      have hC6 : H5 G.objs.size = none := I6.free
      have eD' : h'.get? s2.heap.objs.size = some { cls := .type "list", data := .seq its.toArray k } := hsb.extBut _ _ hDC eD
      have hok6 : HOk X.prog X.w H5 h' := fun b u e => (I6.hok b u e).stay (fun c v hcv qv => hsb.extBut c v (by
          rcases hcv with z | z
          · subst z; exact ne_of_none e hC6
          · exact ne_of_none z hC6) qv) (fun _ q => q) fun _ _ q => q
      refine ⟨.ref s2.heap.objs.size, _, ?_, rfl, q _ nD⟩
      have ub := I6.base
      refine I2.call' (ch := fp) (s' := { s6 with heap := h' }) I6.os ⟨fun b o e n' hb hx => hsb.extBut b o (below b (Heap.lt_size e)) (ub.keep b o e n' hb hx), fun b o e n' hb hx => ?_, fun b o e n' hx => ?_, fun b o e hx => ?_, fun b xs e => ?_, fun b o u e => ?_, fun b ps e => ?_⟩
        (hok6.track nD ⟨hz, its, k, rv5, eD'⟩) I6.bare fun b hb => ⟨(f2 b hb).2.2.2.1, (f2 b hb).2.1, (f2 b hb).2.2.2.2.1, (f2 b hb).2.2.2.2.2⟩
      · obtain ⟨sl, e'⟩ := ub.slot b o e n' hb hx
        exact ⟨sl, hsb.extBut b _ (below b (Heap.lt_size e)) e'⟩
      · rw [upd_ne (Nat.ne_of_lt (Heap.lt_size e))]
        exact ub.free b o e n' hx
      · obtain ⟨o', e'⟩ := ub.there b o e hx
        exact ⟨o', hsb.extBut b _ (below b (Heap.lt_size e)) e'⟩
      · have z := ub.tups b xs e
        rw [upd_ne (ne_of_none z nD)]; exact z
      · have z := ub.frzs b o u e
        rw [upd_ne (ne_of_none z nD)]; exact z
      · obtain ⟨more, z⟩ := ub.tbls b ps e
        exact ⟨more, by rw [upd_ne (ne_of_none z nD)]; exact z⟩
    · refine thn (T.item Y rfl rfl rfl hc i _ s5 τ H5 (fun _ _ => False) I5 (stat fr5) st5 go) fun r s6 ⟨u, hr, h6⟩ => ?_
      subst hr
      refine thn h6 fun _ s7 ⟨x, H7, I7, r7, y7, st7, fr7⟩ => ?_
      have I7' := I7.pinned (stat fr7) (T.obj _ _ st7)
      refine thn (hg s2 H2 fp G.objs.size _ s7 τ H7 x u _ I7' r7 (step x H7 y7)) fun _ s8 ⟨τ8, H8, I8, q8⟩ => ?_
      refine thn (ht s2 H2 fp G.objs.size _ s8 τ8 H8 _ I8 q8) fun ok s9 ⟨H9, I9, q9⟩ => ?_
      -- the iterator's state behind the turn
      have back : ∀ {s' : Shared} {τ' : St} {H' : Hp}, Inv Y ([(s2.heap.objs.size, ({ cls := .type "list", data := .seq its.toArray k } : Obj))] ++ pinsAt fp s7.heap) τ' H' s' → (tn (i + 1) s'.heap ∧ ∀ b ∈ fp, H' b = none) := fun {s' τ' H'} Ib =>
        ⟨T.keep _ _ _ st7 fun b hb o e => (Ib.pin (b, o) (List.mem_append_right _ (List.mem_append_right _ (mem_pinsAt hb e)))).1, fun b hb => by
          obtain ⟨o, e, d⟩ := T.obj _ _ st7 b hb
          exact (Ib.pin (b, o) (List.mem_append_right _ (List.mem_append_right _ (mem_pinsAt hb e)))).2.1⟩
      cases ok with
      | false =>
        obtain ⟨m', hm', w'⟩ := q9
        obtain ⟨sb, fb⟩ := back I9
        exact ⟨m', hm', i + 1, τ8, acc, its, k, H9, I9.unpinned, sb, fb, rv5, w'⟩
      | true =>
        refine thn (he s2 H2 fp G.objs.size _ s9 τ8 H9 _ I9 q9) fun y s10 ⟨yv, H10, I10, r10, q10⟩ => ?_
        obtain ⟨m', hm', w'⟩ := q10
        obtain ⟨sb, fb⟩ := back I10
        obtain ⟨eD, nD, neD, nfD, _⟩ := I10.pin (s2.heap.objs.size, _) (List.mem_append_right _ (List.mem_append_left _ (List.mem_singleton.mpr rfl)))
        have hl : acc.length = its.length := rv5.length
        refine call_meets F.slot_list_append ⟨_, eD, rfl⟩ F.entry_list_append (F.args_list_append_2 _ _) (PySem.list_append s2.heap.objs.size its.toArray k y (by rw [List.size_toArray]; omega)) ⟨eD, ?_⟩
        have q := PySem.IsL.update eD (fun a : Array Value => a.push y)
        have Iu : Inv Y [] τ8 H10 s10 := I10.pins_of fun p hp => nomatch hp
        have It := Iu.turned (t' := s10.toks) (it := s2.heap.objs.size) (h' := s10.heap.update s2.heap.objs.size (Obj.mapSeq (fun a : Array Value => a.push y))) (fun b o hb e => (Heap.get?_update_other s10.heap _ (Ne.symm hb)).trans e) nD neD (.inr (Nat.le_refl _))
          (fun x c e z => by
            obtain ⟨v, ob, hob, _⟩ := I2.cell x c (clOf_lookup e)
            exact absurd (Heap.lt_size hob) (by rw [z]; exact Nat.lt_irrefl _)) (fun p hp => nomatch hp)
        have It' := It.pins_of (pins' := [(s2.heap.objs.size, ({ cls := .type "list", data := .seq (its ++ [y]).toArray (k + 1) } : Obj))]) fun p hp => by
          have e : p = _ := List.mem_singleton.mp hp
          subst e
          exact ⟨by simpa using q, nD, neD, nfD, fun v z => nomatch z⟩
        refine ⟨m', hm', i + 1, τ8, acc ++ [yv], its ++ [y], _, H10, It', T.keep _ _ _ sb fun b hb o e => (Heap.get?_update_other s10.heap _ (Nat.ne_of_gt (fl b hb))).trans e, fb, rv5.append (.cons r10 .nil), w'⟩
  exact codeAny_compStart_list loop (T.self _ 0 s4 _ _ st4 loop)
end
end L2
set_option Elab.async false
set_option linter.all false
set_option maxRecDepth 100000
set_option maxHeartbeats 4000000
namespace L2
open PySem PySem.Spec PyProof.Rows
def tyS (H : Hp) : V → Option String
  | .non => some "NoneType"
  | .bl _ => some "bool"
  | .int _ => some "int"
  | .str _ => some "str"
  | .ref a => match H a with
    | some (.lst _) => some "list"
    | some (.frz _ (.lst _)) => some "list"
    | some (.tup _) => some "tuple"
    | some (.dK _) => some "dict"
    | _ => none
  | _ => none
theorem tyS_of {K : PySem.W.Frag} {H : Hp} {x : V} {t : String} (h : tyS H x = some t) : TyOf K H x (.type t) := by
  cases x with
  | non => cases h; exact .non
  | bl b => cases h; exact .bl b
  | int i => cases h; exact .int i
  | str x => cases h; exact .str x
  | ref a =>
    unfold tyS at h
    dsimp only at h
    split at h
    · rename_i e; cases h; exact .lst e
    · rename_i e; cases h; exact .frz e
    · rename_i e; cases h; exact .tup e
    · rename_i e; cases h; exact .dK e
    · cases h
  | _ => cases h
theorem tyS_six {H : Hp} {x : V} {t : String} (h : tyS H x = some t) : t = "NoneType" ∨ t = "bool" ∨ t = "int" ∨ t = "str" ∨ t = "list" ∨ t = "tuple" ∨ t = "dict" := by
  cases x with
  | ref a =>
    unfold tyS at h
    dsimp only at h
    split at h <;> cases h <;> simp
  | _ => cases h <;> simp
def isSub (t T : String) : Bool := t == T || (t == "bool" && T == "int")
theorem kit_of {K : PySem.W.Frag} {t T : String} (h : t = "NoneType" ∨ t = "bool" ∨ t = "int" ∨ t = "str" ∨ t = "list" ∨ t = "tuple" ∨ t = "dict") (hT : T = "int" ∨ T = "bool" ∨ T = "list" ∨ T = "tuple") : PySem.W.kitOne K (.type t) (.type T) = some (isSub t T) := by
  rcases h with rfl | rfl | rfl | rfl | rfl | rfl | rfl <;> rcases hT with rfl | rfl | rfl | rfl <;> first | rfl | decide +kernel
section
variable {X : Cx}
theorem call_isinst : CallR X (.builtin "isinstance") (fun xs H Q => ∃ x t T, xs = [x, .ty T] ∧ tyS H x = some t ∧ (T = "int" ∨ T = "bool" ∨ T = "list" ∨ T = "tuple") ∧ Q (.bl (isSub t T)) H) := by
  intro pins s σ H xs us Q I r h
  obtain ⟨x, t, T, rfl, ht, hT, q⟩ := h
  obtain ⟨u, w', rfl, r1, r2⟩ := vals2 r
  cases r2
  exact isinst_ok I r1 (tyS_of ht) (kit_of (tyS_six ht) hT) fun tk => ⟨.bl _, H, I.tok tk, rfl, q⟩
theorem op_fdivB : OpR X (binaryOp .FloorDiv) (rI (fun _ j => 0 < j ∧ j < 2 ^ 200) fun i j => .int (i / j)) := opI fun i j _ _ _ _ _ hc q => by
  have e : i.fdiv j = i / j := Int.fdiv_eq_ediv_of_nonneg _ (by omega)
  rw [← e] at q
  refine floordiv_int (by omega) q (.inl (PyProof.noPylong_of_log2 ?_))
  have h0 : j.natAbs ≠ 0 := by omega
  have h1 : j.natAbs < 2 ^ 200 := by omega
  have := (Nat.log2_lt h0).mpr h1
  omega
theorem op_neNil (hu : X.A.units + 64 < cLine) : OpR X (compareOp .NotEq) (fun x y H Q => ∃ a b xs, x = .ref a ∧ y = .ref b ∧ SqL X.K H a xs ∧ SqL X.K H b [] ∧ Q (.bl (!xs.isEmpty)) H) := by
  intro pins s σ H x y v u Q I rx ry h
  obtain ⟨a, b, xs, rfl, rfl, ha, hb, q⟩ := h
  cases rx; cases ry
  obtain ⟨its, r, p, _⟩ := I.list ha
  obtain ⟨its2, r2, p2, _⟩ := I.list hb
  cases r2
  cases r with
  | nil => exact SeqAt.RcNeAt.lists (e := fun _ => true) p.isList p2.isList rfl (by omega) (fun j h1 => absurd h1 (Nat.not_lt_zero _)) _ _ _ _ ⟨.bl _, H, I, rfl, q⟩
  | cons r1 rr => exact SeqAt.RcNeAt.lists_lengths p.isList p2.isList (by simp) (by omega) _ _ _ _ ⟨.bl _, H, I, rfl, q⟩
theorem op_eqUnit (hu : X.A.units + 64 < cLine) : OpR X (compareOp .Eq) (fun x y H Q => ∃ a b xs, x = .ref a ∧ y = .ref b ∧ SqT X.K H a xs ∧ SqT X.K H b [] ∧ Q (.bl xs.isEmpty) H) := by
  intro pins s σ H x y v u Q I rx ry h
  obtain ⟨a, b, xs, rfl, rfl, ha, hb, q⟩ := h
  cases rx; cases ry
  obtain ⟨its, r, p, _⟩ := I.tuple ha
  obtain ⟨its2, r2, p2, _⟩ := I.tuple hb
  cases r2
  have q' : Q (.bl ((List.range (min its.toArray.size ([] : List Value).toArray.size)).all (fun _ => true) && its.toArray.size == ([] : List Value).toArray.size)) H := by
    cases r with
    | nil => simpa using q
    | cons r1 rr => simpa using q
  exact SeqAt.RcAt.tuples (e := fun _ => true) p p2 (by omega) (fun j h1 h2 => absurd h2 (Nat.not_lt_zero _)) _ _ _ _ ⟨.bl _, H, I, rfl, q'⟩
variable {K : PySem.W.Frag}
theorem pg_tup' {es : List Expr} {k : Nat} {t : TGs} {n : Nat} {pos : Pos} (hK : X.K = K) (hc : X.calm = true) (h : PGs X es t)
    (hn : (assignEach es X.env).length = n := by rfl) (hst : (assignEach es X.env).findIdx? (·.1) = none := by rfl) : PG X (.Tuple es k pos) (gTup K n t) := by subst hK; exact pg_tup hc h hn hst
theorem pi_list' {tg l : Expr} {tl : TE} (hK : X.K = K) (hl : PE X l tl) : PI X tg l (iList K tl) := by subst hK; exact pi_list hl
theorem ix_list' (hK : X.K = K) : IxR X (rIxL K) := by subst hK; exact ix_list
theorem ix_tup' (hK : X.K = K) : IxR X (rIxT K) := by subst hK; exact ix_tup
theorem sl_list' (hK : X.K = K) : SlR X (rSlL K) := by subst hK; exact sl_list
theorem sl_tup' (hK : X.K = K) : SlR X (rSlT K) := by subst hK; exact sl_tup
theorem op_in_seq' (hK : X.K = K) : OpR X (compareOp .In) (rIn K false) := by subst hK; exact op_in_seq
theorem call_len_seq' (hK : X.K = K) : CallR X (.builtin "len") (fun xs H Q => ∃ p ys, xs = [.ref p] ∧ (SqL K H p ys ∨ SqT K H p ys) ∧ Q (.int ys.length) H) := by subst hK; exact call_len_seq
theorem call_list_of' (hK : X.K = K) : CallR X (.type "list") (fun xs H Q => ∃ p ys, xs = [.ref p] ∧ (SqL K H p ys ∨ SqT K H p ys) ∧ ∀ l, H l = none → Q (.ref l) (upd H l (.lst ys))) := by subst hK; exact call_list_of
end
end L2
namespace L2
open PySem PySem.Spec PyProof.Rows
theorem get_list {X : Cx} {K : PySem.W.Frag} (hK : X.K = K) : PGet X (fun o i H Q => ∃ p xs v, ∃ k : Nat, o = .ref p ∧ i = .int k ∧ SqL K H p xs ∧ xs[k]? = some v ∧ Q v H) := by
  subst hK
  intro pins s σ H o i ov iv Q I ro ri h
  obtain ⟨p, xs, v, k, rfl, rfl, hq, hv, q⟩ := h
  cases ro
  obtain ⟨t, rfl⟩ := ri
  obtain ⟨its, r, pl, hz⟩ := I.list hq
  obtain ⟨w, ew, rw'⟩ := r.get hv
  have hk : k < xs.length := (List.getElem?_eq_some_iff.mp hv).1
  have hn := line63
  exact wpAny_getItem_list pl.isList (by omega) (by omega) (by simpa using ew) ⟨v, H, I, rw', q⟩
end L2
set_option Elab.async false
set_option linter.all false
set_option maxRecDepth 100000
set_option maxHeartbeats 4000000
namespace SmSort
open PySem PySem.W PyProof.Rows
def KOK {α : Type} (n : Nat) (c : Nat → Nat → Bool) : KasT α → (α → Prop) → Prop
  | .ret a, P => P a
  | .ask i j k, P => i < n ∧ j < n ∧ KOK n c (k (c i j)) P
theorem KOK.bind {α β : Type} {n : Nat} {c : Nat → Nat → Bool} {f : α → KasT β} {P : β → Prop} : ∀ (t : KasT α), KOK n c t (fun a => KOK n c (f a) P) → KOK n c (t.bind f) P
  | .ret a, h => h
  | .ask i j k, h => ⟨h.1, h.2.1, KOK.bind (k (c i j)) h.2.2⟩
theorem KOK.mono {α : Type} {n : Nat} {c : Nat → Nat → Bool} {P P' : α → Prop} (hp : ∀ a, P a → P' a) : ∀ (t : KasT α), KOK n c t P → KOK n c t P'
  | .ret a, h => hp a h
  | .ask i j k, h => ⟨h.1, h.2.1, KOK.mono hp (k (c i j)) h.2.2⟩
theorem KOK.wp {α : Type} {n : Nat} {c : Nat → Nat → Bool} {P : α → Prop} {Q : α → Shared → Prop} {cmp : Nat → Nat → (Bool → Shared → Prop) → Shared → Prop} {s : Shared}
    (hc : ∀ i j C, i < n → j < n → C (c i j) s → cmp i j C s) (hq : ∀ a, P a → Q a s) : ∀ (t : KasT α), KOK n c t P → t.kasWp cmp Q s
  | .ret a, h => hq a h
  | .ask i j k, h => hc i j _ h.1 h.2.1 (KOK.wp hc hq (k (c i j)) h.2.2)
section
variable {n : Nat} {f : Nat → Int}
def at' (p : Array Nat) (i : Nat) : Nat := (p[i]?).getD 0
theorem getD_at (p : Array Nat) (i : Nat) : p.getD i 0 = at' p i := by unfold at'; simp
def g (f : Nat → Int) (p : Array Nat) (i : Nat) : Int := f (at' p i)
def Pm (n : Nat) (p : Array Nat) : Prop := p.Perm (List.toArray (List.range n))
theorem Pm.size {p : Array Nat} (h : Pm n p) : p.size = n := by rw [Array.Perm.size_eq h]; simp
theorem Pm.lt {p : Array Nat} (h : Pm n p) {i : Nat} (hi : i < n) : at' p i < n := by
  have hs := h.size
  have e : at' p i = p[i]'(by omega) := by unfold at'; simp [hs, hi]
  have hm : p[i]'(by omega) ∈ p := Array.getElem_mem _
  have hm' := (Array.Perm.mem_iff h).mp hm
  rw [e]
  simpa using hm'
theorem Pm.rev {p : Array Nat} (h : Pm n p) (i j : Nat) : Pm n (kas_rev p i j) := (mirror_perm p i j _).trans h
theorem Pm.bub {p : Array Nat} (h : Pm n p) (k d : Nat) : Pm n (bubble p k d) := (bubble_perm p k d).trans h
theorem g_rev {p : Array Nat} {i j : Nat} (hj : j ≤ p.size) (k : Nat) : g f (kas_rev p i j) k = if i ≤ k ∧ k < j then g f p (i + j - 1 - k) else g f p k := by
  unfold g at' kas_rev
  rw [getElem?_mirror_all hj k]
  split <;> rfl
theorem g_bub {p : Array Nat} {src d : Nat} (hs : src < p.size) (hd : d ≤ src) (k : Nat) : g f (bubble p src d) k = if k = src - d then g f p src else if src - d < k ∧ k ≤ src then g f p (k - 1) else g f p k := by
  unfold g at'
  rw [getElem?_bubble hs d hd k]
  split
  · rfl
  · split <;> rfl
def Up (f : Nat → Int) (p : Array Nat) (k : Nat) : Prop := ∀ i j, i ≤ j → j < k → g f p i ≤ g f p j
def Dn (f : Nat → Int) (p : Array Nat) (k : Nat) : Prop := ∀ i j, i ≤ j → j < k → g f p j ≤ g f p i
def cf (f : Nat → Int) (i j : Nat) : Bool := decide (f i < f j)
theorem asc_ok {p : Array Nat} (hp : Pm n p) : ∀ (q m : Nat), 1 ≤ m → m + q ≤ n → Up f p m → KOK n (cf f) (kas_asc p q m) (fun m' => m ≤ m' ∧ m' ≤ m + q ∧ Up f p m' ∧ (m' < m + q → g f p m' < g f p (m' - 1)))
  | 0, m, _, _, hu => ⟨Nat.le_refl _, Nat.le_refl _, hu, fun h => absurd h (Nat.lt_irrefl _)⟩
  | q + 1, m, h1, h2, hu => by
    unfold kas_asc
    refine ⟨by rw [getD_at]; exact hp.lt (by omega), by rw [getD_at]; exact hp.lt (by omega), ?_⟩
    rw [getD_at, getD_at]
    by_cases hc : g f p m < g f p (m - 1)
    · have e : cf f (at' p m) (at' p (m - 1)) = true := decide_eq_true hc
      rw [e]; dsimp only; rw [if_pos rfl]
      exact ⟨Nat.le_refl _, by omega, hu, fun _ => hc⟩
    · have e : cf f (at' p m) (at' p (m - 1)) = false := decide_eq_false hc
      rw [e]; dsimp only; rw [if_neg Bool.false_ne_true]
      refine KOK.mono (fun m' h => ⟨by omega, by omega, h.2.2.1, fun z => h.2.2.2 (by omega)⟩) _ (asc_ok hp q (m + 1) (by omega) (by omega) fun i j hij hj => ?_)
      by_cases hjm : j < m
      · exact hu i j hij hjm
      · have ej : j = m := by omega
        subst ej
        by_cases hi : i = j
        · subst hi; omega
        · have := hu i (j - 1) (by omega) (by omega)
          omega
def Blk (f : Nat → Int) (p : Array Nat) (m q : Nat) : Prop := ∀ i, m ≤ i + (q + 1) → i < m → g f p i = g f p (m - 1)
theorem rev_same {p : Array Nat} (hp : Pm n p) {m q : Nat} (hm : m ≤ n) (hq : q + 1 ≤ m) (hb : Blk f p m q) (k : Nat) : g f (kas_rev p (m - (q + 1)) m) k = g f p k := by
  rw [g_rev (by rw [hp.size]; exact hm)]
  split
  · rename_i h
    rw [hb _ (by omega) (by omega), hb k (by omega) (by omega)]
  · rfl
theorem desc_ok : ∀ (t : Nat) (p : Array Nat) (m q : Nat), Pm n p → 1 ≤ m → m + t ≤ n → q + 1 ≤ m → Dn f p m → Blk f p m q →
    KOK n (cf f) (kas_desc t p m q) (fun r => Pm n r.1 ∧ m ≤ r.2.1 ∧ r.2.1 ≤ n ∧ r.2.2 + 1 ≤ r.2.1 ∧ Dn f r.1 r.2.1 ∧ Blk f r.1 r.2.1 r.2.2)
  | 0, p, m, q, hp, h1, h2, h3, hd, hb => ⟨hp, Nat.le_refl _, by simpa using h2, h3, hd, hb⟩
  | t + 1, p, m, q, hp, h1, h2, h3, hd, hb => by
    unfold kas_desc
    refine ⟨by rw [getD_at]; exact hp.lt (by omega), by rw [getD_at]; exact hp.lt (by omega), ?_⟩
    rw [getD_at, getD_at]
    by_cases hc : g f p m < g f p (m - 1)
    · have e : cf f (at' p m) (at' p (m - 1)) = true := decide_eq_true hc
      rw [e]; dsimp only; rw [if_pos rfl]
      have step : ∀ p' : Array Nat, Pm n p' → (∀ k, g f p' k = g f p k) → KOK n (cf f) (kas_desc t p' (m + 1) 0) (fun r => Pm n r.1 ∧ m ≤ r.2.1 ∧ r.2.1 ≤ n ∧ r.2.2 + 1 ≤ r.2.1 ∧ Dn f r.1 r.2.1 ∧ Blk f r.1 r.2.1 r.2.2) := fun p' hp' hg => by
        refine KOK.mono (fun r h => ⟨h.1, by omega, h.2.2⟩) _ (desc_ok t p' (m + 1) 0 hp' (by omega) (by omega) (by omega) (fun i j hij hj => ?_) fun i hi hi' => ?_)
        · rw [hg, hg]
          by_cases hjm : j < m
          · exact hd i j hij hjm
          · have ej : j = m := by omega
            subst ej
            by_cases hi : i = j
            · subst hi; omega
            · have := hd i (j - 1) (by omega) (by omega)
              omega
        · have : i = m + 1 - 1 := by omega
          rw [this]
      split
      · exact step _ (hp.rev _ _) (rev_same hp (by omega) h3 hb)
      · exact step _ hp fun _ => rfl
    · have e : cf f (at' p m) (at' p (m - 1)) = false := decide_eq_false hc
      rw [e]; dsimp only; rw [if_neg Bool.false_ne_true]
      refine ⟨hp.lt (by omega), hp.lt (by omega), ?_⟩
      by_cases hc2 : g f p (m - 1) < g f p m
      · have e2 : cf f (at' p (m - 1)) (at' p m) = true := decide_eq_true hc2
        rw [e2]; dsimp only; rw [if_pos rfl]
        exact ⟨hp, Nat.le_refl _, by show m ≤ n; omega, h3, hd, hb⟩
      · have e2 : cf f (at' p (m - 1)) (at' p m) = false := decide_eq_false hc2
        rw [e2]; dsimp only; rw [if_neg Bool.false_ne_true]
        have eq : g f p m = g f p (m - 1) := by omega
        refine KOK.mono (fun r h => ⟨h.1, by omega, h.2.2⟩) _ (desc_ok t p (m + 1) (q + 1) hp (by omega) (by omega) (by omega) (fun i j hij hj => ?_) fun i hi hi' => ?_)
        · by_cases hjm : j < m
          · exact hd i j hij hjm
          · have ej : j = m := by omega
            subst ej
            by_cases hi : i = j
            · subst hi; omega
            · have := hd i (j - 1) (by omega) (by omega)
              omega
        · rw [show m + 1 - 1 = m from rfl]
          by_cases hi2 : i = m
          · rw [hi2]
          · rw [hb i (by omega) (by omega), eq]
theorem tail3_ok {p : Array Nat} {m : Nat} (hp : Pm n p) (h1 : 1 ≤ m) (hm : m ≤ n) (hd : Dn f p m) : KOK n (cf f) (kas_tail3 m n p) (fun r => Pm n r.2 ∧ r.1 ≤ n ∧ 1 ≤ r.1 ∧ Up f r.2 r.1) := by
  unfold kas_tail3
  have hp' := hp.rev 0 m
  refine KOK.bind _ (KOK.mono (fun m' h => ⟨hp', by omega, by omega, h.2.2.1⟩) _ (asc_ok hp' (n - m) m h1 (by omega) fun i j hij hj => ?_))
  rw [g_rev (by rw [hp.size]; exact hm), g_rev (by rw [hp.size]; exact hm), if_pos ⟨by omega, by omega⟩, if_pos ⟨by omega, by omega⟩]
  exact hd _ _ (by omega) (by omega)
theorem descPart_ok {p : Array Nat} {m : Nat} (hp : Pm n p) (h1 : 1 ≤ m) (hm : m < n) (hd : Dn f p (m + 1)) : KOK n (cf f) (kas_descPart m n p) (fun r => Pm n r.2 ∧ r.1 ≤ n ∧ 1 ≤ r.1 ∧ Up f r.2 r.1) := by
  unfold kas_descPart
  refine KOK.bind _ (KOK.mono (fun r h => ?_) _ (desc_ok (n - (m + 1)) p (m + 1) 0 hp (by omega) (by omega) (by omega) hd fun i hi hi' => by rw [show i = m + 1 - 1 by omega]))
  obtain ⟨a1, a2, a3, a4, a5, a6⟩ := h
  split
  · exact tail3_ok (a1.rev _ _) (by omega) a3 fun i j hij hj => by
      rw [rev_same a1 a3 a4 a6, rev_same a1 a3 a4 a6]
      exact a5 i j hij hj
  · exact tail3_ok a1 (by omega) a3 a5
theorem count_ok {p : Array Nat} (hn : 1 ≤ n) (hp : Pm n p) : KOK n (cf f) (kas_count n p) (fun r => Pm n r.2 ∧ r.1 ≤ n ∧ 1 ≤ r.1 ∧ Up f r.2 r.1) := by
  unfold kas_count
  refine KOK.bind _ (KOK.mono (fun m h => ?_) _ (asc_ok hp (n - 1) 1 (Nat.le_refl _) (by omega) fun i j hij hj => by rw [show i = j by omega]; omega))
  obtain ⟨a1, a2, a3, a4⟩ := h
  split
  · exact ⟨hp, by omega, a1, a3⟩
  · rename_i hne
    have hlt : m < n := by
      have : ¬ m = n := by simpa using hne
      omega
    have a4' := a4 (by omega)
    split
    · rename_i hm1
      refine ⟨by rw [getD_at]; exact hp.lt (by omega), by rw [getD_at]; exact hp.lt (by omega), ?_⟩
      rw [getD_at, getD_at]
      by_cases hc : g f p 0 < g f p (m - 1)
      · have e : cf f (at' p 0) (at' p (m - 1)) = true := decide_eq_true hc
        rw [e]; dsimp only; rw [if_pos rfl]
        exact ⟨hp, by omega, a1, a3⟩
      · have e : cf f (at' p 0) (at' p (m - 1)) = false := decide_eq_false hc
        rw [e]; dsimp only; rw [if_neg Bool.false_ne_true]
        have all : ∀ k, k < m → g f p k = g f p 0 := fun k hk => by
          have := a3 0 k (by omega) hk
          have := a3 k (m - 1) (by omega) (by omega)
          omega
        have gr : ∀ k, g f (kas_rev p 0 m) k = g f p k := fun k => by
          rw [g_rev (by rw [hp.size]; omega)]
          split
          · rw [all _ (by omega), all k (by omega)]
          · rfl
        refine descPart_ok (hp.rev _ _) a1 hlt fun i j hij hj => ?_
        rw [gr, gr]
        by_cases hjm : j < m
        · rw [all i (by omega), all j hjm]; omega
        · have ej : j = m := by omega
          subst ej
          by_cases hi : i = j
          · subst hi; omega
          · have := all i (by omega)
            have := all (j - 1) (by omega)
            omega
    · refine descPart_ok hp a1 hlt fun i j hij hj => ?_
      have em : m = 1 := by omega
      subst em
      by_cases hi : i = j
      · subst hi; omega
      · have e1 : i = 0 := by omega
        have e2 : j = 1 := by omega
        subst e1 e2
        have : g f p 1 < g f p 0 := a4'
        omega
theorem place_ok {p : Array Nat} {k : Nat} (hp : Pm n p) (hk : k < n) (hu : Up f p k) : ∀ (t l r : Nat), l ≤ r → r ≤ k → r ≤ l + t → (∀ i, i < l → g f p i ≤ g f p k) → (∀ i, r ≤ i → i < k → g f p k < g f p i) →
    KOK n (cf f) (kas_place p k t l r) (fun l' => l' ≤ k ∧ (∀ i, i < l' → g f p i ≤ g f p k) ∧ ∀ i, l' ≤ i → i < k → g f p k < g f p i)
  | 0, l, r, h1, h2, h3, ha, hb => ⟨by omega, ha, fun i hi hi' => hb i (by omega) hi'⟩
  | t + 1, l, r, h1, h2, h3, ha, hb => by
    unfold kas_place
    split
    · exact ⟨by omega, ha, fun i hi hi' => hb i (by omega) hi'⟩
    · rename_i hlr
      refine ⟨by rw [getD_at]; exact hp.lt hk, by rw [getD_at]; exact hp.lt (by omega), ?_⟩
      rw [getD_at, getD_at]
      by_cases hc : g f p k < g f p ((l + r) / 2)
      · have e : cf f (at' p k) (at' p ((l + r) / 2)) = true := decide_eq_true hc
        rw [e]; dsimp only; rw [if_pos rfl]
        refine place_ok hp hk hu t l ((l + r) / 2) (by omega) (by omega) (by omega) ha fun i hi hi' => ?_
        have := hu ((l + r) / 2) i (by omega) hi'
        omega
      · have e : cf f (at' p k) (at' p ((l + r) / 2)) = false := decide_eq_false hc
        rw [e]; dsimp only; rw [if_neg Bool.false_ne_true]
        refine place_ok hp hk hu t ((l + r) / 2 + 1) r (by omega) (by omega) (by omega) (fun i hi => ?_) hb
        have := hu i ((l + r) / 2) (by omega) (by omega)
        omega
theorem bin_ok : ∀ (t : Nat) (p : Array Nat) (k : Nat), Pm n p → k + t = n → Up f p k → KOK n (cf f) (kas_bin t p k) (fun p' => Pm n p' ∧ Up f p' n)
  | 0, p, k, hp, hk, hu => ⟨hp, by rw [← hk]; exact hu⟩
  | t + 1, p, k, hp, hk, hu => by
    unfold kas_bin
    refine KOK.bind _ (KOK.mono (fun l h => ?_) _ (place_ok hp (by omega) hu k 0 k (by omega) (by omega) (by omega) (fun i hi => absurd hi (Nat.not_lt_zero _)) fun i hi hi' => absurd hi' (by omega)))
    obtain ⟨a1, a2, a3⟩ := h
    refine bin_ok t _ (k + 1) (hp.bub _ _) (by omega) fun i j hij hj => ?_
    have hs : k < p.size := by rw [hp.size]; omega
    rw [g_bub hs (by omega), g_bub hs (by omega)]
    have el : k - (k - l) = l := by omega
    rw [el]
    by_cases hil : i = l
    · rw [if_pos hil]
      by_cases hjl : j = l
      · rw [if_pos hjl]; omega
      · rw [if_neg hjl, if_pos ⟨by omega, by omega⟩]
        have := a3 (j - 1) (by omega) (by omega)
        omega
    · rw [if_neg hil]
      by_cases hi2 : l < i ∧ i ≤ k
      · rw [if_pos hi2]
        rw [if_neg (by omega), if_pos ⟨by omega, by omega⟩]
        exact hu _ _ (by omega) (by omega)
      · rw [if_neg hi2]
        have hi3 : i < l := by omega
        by_cases hjl : j = l
        · rw [if_pos hjl]; exact a2 i hi3
        · rw [if_neg hjl]
          by_cases hj2 : l < j ∧ j ≤ k
          · rw [if_pos hj2]; exact hu _ _ (by omega) (by omega)
          · rw [if_neg hj2]; exact hu _ _ hij (by omega)
theorem sort_ok (hn : 1 ≤ n) : KOK n (cf f) (kas_sort n) (fun p => Pm n p ∧ Up f p n) := by
  unfold kas_sort
  refine KOK.bind _ (KOK.mono (fun r h => ?_) _ (count_ok hn (show Pm n (List.toArray (List.range n)) from Array.Perm.refl _)))
  obtain ⟨a1, a2, a3, a4⟩ := h
  split
  · have e : max r.1 1 = r.1 := by omega
    rw [e]
    exact bin_ok _ _ _ a1 (by omega) a4
  · have e : r.1 = n := by omega
    exact ⟨a1, by rw [← e]; exact a4⟩
end
end SmSort
set_option Elab.async false
set_option linter.all false
set_option maxRecDepth 100000
set_option maxHeartbeats 4000000
namespace SmSort
def lx : List Int → List Int → Bool
  | [], [] => false
  | [], _ :: _ => true
  | _ :: _, [] => false
  | x :: xs, y :: ys => if x = y then lx xs ys else decide (x < y)
theorem lx_irr : ∀ r : List Int, lx r r = false
  | [] => rfl
  | x :: xs => by unfold lx; rw [if_pos rfl]; exact lx_irr xs
theorem lx_tr : ∀ {a b c : List Int}, lx a b = true → lx b c = true → lx a c = true
  | [], [], _, h, _ => by cases h
  | [], _ :: _, [], _, h => by cases h
  | [], _ :: _, _ :: _, _, _ => rfl
  | _ :: _, [], _, h, _ => by cases h
  | _ :: _, _ :: _, [], _, h => by cases h
  | x :: xs, y :: ys, z :: zs, h, h' => by
    unfold lx at h h' ⊢
    split at h
    · split at h'
      · rename_i e1 e2; rw [if_pos (e1.trans e2)]; exact lx_tr h h'
      · rename_i e1 e2
        simp only [decide_eq_true_eq] at h'
        rw [if_neg (by omega)]; simp only [decide_eq_true_eq]; omega
    · simp only [decide_eq_true_eq] at h
      split at h'
      · rename_i e1 e2
        rw [if_neg (by omega)]; simp only [decide_eq_true_eq]; omega
      · simp only [decide_eq_true_eq] at h'
        rw [if_neg (by omega)]; simp only [decide_eq_true_eq]; omega
theorem lx_tot : ∀ {a b : List Int}, lx a b = false → lx b a = false → a = b
  | [], [], _, _ => rfl
  | [], _ :: _, h, _ => by cases h
  | _ :: _, [], _, h => by cases h
  | x :: xs, y :: ys, h, h' => by
    unfold lx at h h'
    split at h
    · rename_i e; subst e; rw [if_pos rfl] at h'; rw [lx_tot h h']
    · rename_i e
      rw [if_neg fun z => e z.symm] at h'
      simp only [decide_eq_false_iff_not] at h h'
      omega
def rk (rs : List (List Int)) (r : List Int) : Int := ((rs.countP fun x => lx x r : Nat) : Int)
theorem countP_lt {α : Type} {p q : α → Bool} {a : α} : ∀ {l : List α}, (∀ x, p x = true → q x = true) → a ∈ l → p a = false → q a = true → l.countP p < l.countP q
  | [], _, h, _, _ => by cases h
  | x :: l, hpq, h, h1, h2 => by
    have hm : l.countP p ≤ l.countP q := List.countP_mono_left fun x _ => hpq x
    rcases List.mem_cons.mp h with rfl | h
    · rw [List.countP_cons_of_neg (by rw [h1]; exact Bool.false_ne_true), List.countP_cons_of_pos h2]; omega
    · have := countP_lt hpq h h1 h2
      rw [List.countP_cons, List.countP_cons]
      cases e : p x with
      | true => rw [hpq x e]; simp; omega
      | false => cases e2 : q x <;> simp <;> omega
theorem rk_lt {rs : List (List Int)} {a b : List Int} (ha : a ∈ rs) : decide (rk rs a < rk rs b) = lx a b := by
  unfold rk
  cases h : lx a b with
  | true =>
    have := countP_lt (p := fun x => lx x a) (q := fun x => lx x b) (fun x hx => lx_tr hx h) ha (lx_irr a) h
    simp only [decide_eq_true_eq]; omega
  | false =>
    have hm : rs.countP (fun x => lx x b) ≤ rs.countP (fun x => lx x a) := List.countP_mono_left fun x _ hx => by
      cases h' : lx b a with
      | true => exact lx_tr hx h'
      | false => rw [lx_tot h h']; exact hx
    simp only [decide_eq_false_iff_not]; omega
end SmSort
namespace L2
open PySem PySem.Spec PyProof.Rows PySem.W SmSort
theorem ObjOk.at {P : Program} {w : World} {H : Hp} {h : Heap} {a : Addr} {o : HO} (x : ObjOk P w H h a o) : ∃ ob, h.get? a = some ob := by
  cases o with
  | lst xs => obtain ⟨_, _, _, _, e⟩ := x; exact ⟨_, e⟩
  | tup xs => obtain ⟨_, _, _, ob, e, _⟩ := x; exact ⟨_, e⟩
  | dK kvs => obtain ⟨_, _, _, _, o, _, _, e, _⟩ := x; exact ⟨_, e⟩
  | dT kvs => obtain ⟨_, _, _, _, o, _, _, e, _⟩ := x; exact ⟨_, e⟩
  | set S n => obtain ⟨o, _, _, _, e, _⟩ := x; exact ⟨_, e⟩
  | ins C dx fs => obtain ⟨_, _, _, e, _⟩ := x; exact ⟨_, e⟩
  | own y => obtain ⟨_, e⟩ := x; exact ⟨_, e⟩
  | xd fs => obtain ⟨_, ⟨_, _, _, e, _⟩, _⟩ := x; exact ⟨_, e⟩
  | rng lo hi => obtain ⟨_, _, _, e⟩ := x; exact ⟨_, e⟩
  | frz ob u => obtain ⟨e, _⟩ := x; exact ⟨_, e⟩
  | tbl ps => exact ⟨_, (show h.get? a = some _ from x)⟩
  | met f y => exact ⟨_, (show h.get? a = some _ from x)⟩
  | ext φ => obtain ⟨_, ⟨_, e⟩, _⟩ := x; exact ⟨_, e⟩
section
variable {X : Cx} {pins : List (Addr × Obj)} {σ : St} {H : Hp} {s : Shared}
theorem Inv.sortedTo {m : Str → Option Value} {h' : Heap} {D : Addr} {its : List Value} {c : Nat} {xs : List V} (I : Inv X pins σ H s) (F0 : Fr X.base X.env.locals s.heap m) (F : Fr X.base X.env.locals h' m)
    (N : News X.base X.env.locals h' ((D, listOf its.toArray c) :: allNews X.base s.heap X.env.locals)) (lt : ∀ q ∈ allNews X.base s.heap X.env.locals, q.1 < D) (hv : Vals xs its) (hz : xs.length ≤ sizeLine) :
    Inv X pins σ (upd H D (.lst xs)) { s with heap := h' } ∧ H D = none := by
  obtain ⟨eD, nL, nb⟩ := N (D, listOf its.toArray c) (.head _)
  have oldD : s.heap.get? D = none := by
    cases q : s.heap.get? D with
    | none => rfl
    | some o => exact absurd (lt (D, o) (mem_allNews nL nb q)) (Nat.lt_irrefl _)
  have hD : H D = none := by
    cases q : H D with
    | none => rfl
    | some u =>
      obtain ⟨ob, e⟩ := (I.hok D u q).at
      rw [oldD] at e; cases e
  have keep : ∀ b o, b ≠ X.env.locals → s.heap.get? b = some o → h'.get? b = some o := fun b o hb e => by
    cases q : X.base.get? b with
    | some u =>
      have := I.bk b u q
      rw [e] at this; cases this
      exact F.keep b _ q
    | none => exact (N (b, o) (.tail _ (mem_allNews hb q e))).1
  have neD : ∀ b o, s.heap.get? b = some o → b ≠ D := fun b o e z => by rw [z, oldD] at e; cases e
  have neT : ∀ b u, H b = some u → b ≠ D := fun b u e z => by rw [z, hD] at e; cases e
  refine ⟨I.step (g' := s.gens) (t' := s.toks) (d' := s.drawn) (ch := []) (fun _ z => nomatch z) (fun b o hb _ _ e _ => keep b o hb e) (fun b o hb _ _ e _ => ⟨o.slots, keep b o hb e⟩) (fun b o _ e n => by rw [upd_ne (neD b o e)]; exact n) (fun b o _ e => ?_)
    (fun b ys e => by rw [upd_ne (neT b _ e)]; exact e) (fun b o u e => by rw [upd_ne (neT b _ e)]; exact e) (fun b ps e => ⟨#[], by rw [upd_ne (neT b _ e), e, Array.append_empty]⟩) (fun m' hm => ?_) (fun b u e => ?_) I.bare, hD⟩
  · by_cases hb : b = X.env.locals
    · obtain ⟨o', _, _, q, _⟩ := F.ns
      exact ⟨o', by rw [hb]; exact q⟩
    · exact ⟨o, keep b o hb e⟩
  · obtain ⟨o1, es1, ep1, e1, d1, k1, f1⟩ := hm
    obtain ⟨o2, es2, ep2, e2, d2, k2, f2⟩ := F0.ns
    rw [e1] at e2; cases e2
    rw [d1] at d2; cases d2
    obtain ⟨o3, es3, ep3, e3, d3, k3, f3⟩ := F.ns
    exact ⟨o3, es3, ep3, e3, d3, k3, fun name => (f3 name).trans ((f2 name).symm.trans (f1 name))⟩
  · by_cases hb : b = D
    · subst hb; rw [upd_same] at e; cases e
      exact ⟨hz, its, c, hv, eD⟩
    · rw [upd_ne hb] at e
      refine (I.hok b u e).stay (fun c v hc q => keep c v (fun z => ?_) q) (fun c q => by rw [upd_ne (neT c _ q)]; exact q) fun c ys q => by rw [upd_ne (neT c _ q)]; exact q
      rcases hc with rfl | hc
      · rw [z, I.free] at e; cases e
      · rw [z, I.free] at hc; cases hc
end
section
variable {prog : Program} {w : World} {A : Around} {E : Value → Shared → Prop} {s : Shared}
theorem sort_short {a : Addr} {its : List Value} {k : Nat} {P : PySem.Fin → Shared → Prop} (hx : s.heap.get? a = some (seqObj "list" its.toArray k)) (few : its.length < 2)
    (done : P (.done (.ret .none)) { s with heap := sortedHeap s.heap a its its.toArray }) : wpAny (model prog w) A (Builtin.«list.sort» ⟨[.ref a], []⟩) P E s := by
  have here : a < s.heap.objs.size := Heap.lt_size hx
  have line : its.length ≤ sizeLine := by rw [sizeLine_eq]; omega
  rw [list_sort_plain]
  obtain ⟨e1, at1⟩ : ∃ e1, (s.heap.update a (Obj.mapSeq fun _ => (#[] : Array Value))).get? a = some (seqObj "list" #[] e1) := ⟨_, get?_update_seq hx (fun _ => #[])⟩
  refine wpAny_bind (listItems_at hx rfl (wpAny_bind (listUpdate_at hx rfl (wpAny_bind (seqEpoch_at at1 rfl (wpAny_bind (wpAny_newTuple (wpAny_bind (wpAny_newList (wpAny_holding ?_) (Nat.zero_le _))) line))))
    (by rw [List.size_toArray]; exact line) (Nat.zero_le _))))
  have at2 : (((s.heap.update a (Obj.mapSeq fun _ => (#[] : Array Value))).push (seqObj "tuple" its.toArray 0)).push (seqObj "list" #[] 0)).get? a = some (seqObj "list" #[] e1) :=
    Heap.get?_push_of_some _ (Heap.get?_push_of_some _ at1)
  show wpAny (model prog w) A _ P E { s with heap := ((s.heap.update a (Obj.mapSeq fun _ => (#[] : Array Value))).push (seqObj "tuple" its.toArray 0)).push (seqObj "list" #[] 0) }
  have less : its.toArray.size < 2 := by rw [List.size_toArray]; exact few
  have snds : (arrOf (SortSt.mk' general' (its.toArray.zip its.toArray) #[] 7 none)).map (·.2) = its.toArray := by
    show (its.toArray.zip its.toArray).map (·.2) = its.toArray
    match its, few with
    | [], _ => simp
    | [_], _ => simp
  dsimp only
  rw [if_pos less, if_pos less]
  refine wpAny_bind (wpAny_pure ?_)
  rw [StateT.run_pure]
  refine wpAny_bind (wpAny_pure ?_)
  dsimp only
  refine wpAny_bind (seqEpoch_at at2 rfl (wpAny_bind (listUpdate_at at2 rfl ?_ (Nat.zero_le _) (by rw [snds, List.size_toArray]; omega))))
  simp only [bne_self_eq_false, Bool.false_eq_true, if_false]
  rw [snds]
  exact wpAny_pure done
theorem sorted_short {l : Addr} {its : List Value} {Q : Value → Shared → Prop} (hl : s.heap.IsList l its.toArray) (few : its.length < 2)
    (done : Q (.ref (s.heap.objs.size + 1)) { s with heap := sortedAll s.heap its its.toArray }) : wpAny (model prog w) A (call (.builtin "sorted") [.ref l]) Q E s := by
  have line : its.length ≤ sizeLine := by rw [sizeLine_eq]; omega
  refine Calls.call_function_entry kind_sorted plain_sorted entry_sorted (args_sorted1 _) ?_
  unfold Builtin.«sorted»
  refine wpAny_bind (m := checkCount "sorted" 1 1 _) (wpAny_pure (wpAny_bind (collect_list hl (wpAny_bind (wpAny_newList ?_ line)) line)))
  have sz : ((s.heap.push (seqObj "list" #[] 0)).update s.heap.objs.size (Obj.mapSeq (· ++ its.toArray))).objs.size = s.heap.objs.size + 1 := by rw [Heap.size_update, size_push']
  have atL : (((s.heap.push (seqObj "list" #[] 0)).update s.heap.objs.size (Obj.mapSeq (· ++ its.toArray))).push (seqObj "list" its.toArray 0)).get? (s.heap.objs.size + 1) = some (seqObj "list" its.toArray 0) := by
    rw [← sz]; exact Heap.get?_push_size _ rfl
  show wpAny _ _ _ _ _ { s with heap := ((s.heap.push (seqObj "list" #[] 0)).update s.heap.objs.size (Obj.mapSeq (· ++ its.toArray))).push (seqObj "list" its.toArray 0) }
  rw [sz]
  exact wpAny_bind (wpAny_holding (wpAny_call_entry slot_list_sort ⟨_, atL, rfl⟩ entry_list_sort (sort_short atL few ⟨_, rfl, wpAny_pure ⟨_, rfl, done⟩⟩) (args_list_sort _)))
end
section
variable {X : Cx}
theorem vals_refs : ∀ {ps : List (Addr × List Int)} {us : List Value}, Vals (ps.map fun a => V.ref a.1) us → us = ps.map fun a => Value.ref a.1
  | [], us, r => by cases r; rfl
  | a :: ps, us, r => by
    cases r with
    | cons x y => rw [vals_refs y]; cases x; rfl
def RowAt (h : Heap) (a : Addr) (r : List Int) : Prop := ∃ o items n, h.get? a = some o ∧ o.cls = .type "tuple" ∧ o.data = .seq items n ∧ Vals (r.map V.int) items.toList
theorem vals_lex {prog : Program} {w : World} {A : Around} {s : Shared} {b fin : Bool} {Q : Bool → Shared → Prop} : ∀ {r r' : List Int} {us us' : List Value} {i : Nat}, Vals (r.map V.int) us → Vals (r'.map V.int) us' → fin = decide (us.length < us'.length) → Q (lx r r') s →
    KatLex prog w A b fin Q (us.zip us') i s
  | [], [], us, us', i, ru, ru', hf, q => by cases ru; cases ru'; exact kat_nil (by rw [hf]; exact q)
  | [], _ :: _, us, us', i, ru, ru', hf, q => by
    cases ru; cases ru' with
    | cons _ _ => exact kat_nil (by rw [hf]; simpa [lx] using q)
  | _ :: _, [], us, us', i, ru, ru', hf, q => by
    cases ru'; cases ru with
    | cons _ _ => exact kat_nil (by rw [hf]; simpa [lx] using q)
  | x :: r, y :: r', us, us', i, ru, ru', hf, q => by
    cases ru with
    | cons rx ru =>
    cases ru' with
    | cons ry ru' =>
    obtain ⟨t, rfl⟩ := rx
    obtain ⟨t', rfl⟩ := ry
    refine kat_cons (wpAny_eqBool_int ?_)
    unfold lx at q
    by_cases e : x = y
    · subst e
      rw [if_pos rfl] at q
      rw [show (x == x) = true from by simp]
      exact kat_yes (vals_lex ru ru' (by rw [hf]; simp) q)
    · rw [if_neg e] at q
      rw [show (x == y) = false from by simpa using e]
      refine kat_no ?_
      cases (b && i == 0) with
      | true => exact oneLt_int q
      | false => exact kat_one _ _ (lt_int q)
theorem kat_tups {h : Heap} : ∀ {ps : List (Addr × List Int)}, (∀ a ∈ ps, RowAt h a.1 a.2 ∧ a.2 ≠ []) → ∃ fs, KatTups h (ps.map fun a => Value.ref a.1) fs ∧ fs.length = ps.length ∧ ∀ v ∈ fs, ∃ i t, v = Value.int i t
  | [], _ => ⟨[], KatTups.nil, rfl, fun _ z => nomatch z⟩
  | (a, r) :: ps, hp => by
    obtain ⟨fs, k, l, f⟩ := kat_tups fun a ha => hp a (.tail _ ha)
    obtain ⟨⟨o, items, n, ho, hc, hd, hv⟩, hn⟩ := hp (a, r) (.head _)
    match r, hn, hv with
    | x :: r, _, hv =>
      obtain ⟨u, hu, t, e⟩ := Vals.get (i := 0) hv rfl
      refine ⟨u :: fs, KatTups.cons ho hc hd (by rw [← hu]; simp) k, by simp [l], fun v hv => ?_⟩
      rcases List.mem_cons.mp hv with rfl | hv
      · exact ⟨x, t, e⟩
      · exact f v hv
theorem range_map {α : Type} (d : α) (l : List α) : (List.range l.length).map (fun i => l.getD i d) = l := by
  apply List.ext_getElem
  · simp
  · intro i h1 h2
    simp [List.getD, h2]
theorem vals_of_refs : ∀ (ps : List (Addr × List Int)), Vals (ps.map fun a => V.ref a.1) (ps.map fun a => Value.ref a.1)
  | [] => .nil
  | _ :: ps => .cons rfl (vals_of_refs ps)
theorem call_sortT : CallR X (.builtin "sorted") (fun xs H Q => ∃ p, ∃ ps : List (Addr × List Int), xs = [.ref p] ∧ SqL X.K H p (ps.map fun a => V.ref a.1) ∧ ps.length < 64 ∧ (∀ a ∈ ps, H a.1 = some (.tup (a.2.map V.int)) ∧ a.2 ≠ []) ∧
    ∀ l qs, H l = none → List.Perm qs ps → qs.Pairwise (fun a b => lx b.2 a.2 = false) → Q (.ref l) (upd H l (.lst (qs.map fun a => V.ref a.1)))) := by
  intro pins s σ H xs us Q I r h
  obtain ⟨p, ps, rfl, hq, h64, hrow, q⟩ := h
  obtain ⟨u, rfl, rx⟩ := vals1 r
  cases rx
  obtain ⟨its, r', pl, hz⟩ := I.list hq
  have ei := vals_refs r'
  subst ei
  have hlen : (ps.map fun a => Value.ref a.1).length = ps.length := by simp
  by_cases h2 : ps.length < 2
  · refine sorted_short pl.isList (by omega) ?_
    have sz : ((s.heap.push (seqObj "list" #[] 0)).update s.heap.objs.size (Obj.mapSeq (· ++ (ps.map fun a => Value.ref a.1).toArray))).objs.size = s.heap.objs.size + 1 := by rw [Heap.size_update, size_push']
    have kp : ∀ b o, s.heap.get? b = some o → (sortedAll s.heap (ps.map fun a => Value.ref a.1) (ps.map fun a => Value.ref a.1).toArray).get? b = some o := fun b o e => by
      have lb : b < s.heap.objs.size := Heap.lt_size e
      unfold sortedAll sortedHeap
      rw [Heap.get?_update_ne _ _ _ _ (Nat.ne_of_lt (Nat.lt_succ_of_lt lb))]
      refine Heap.get?_push_of_some _ (Heap.get?_push_of_some _ ?_)
      rw [Heap.get?_update_ne _ _ _ _ (Nat.ne_of_lt (Nat.lt_succ_of_lt lb))]
      refine Heap.get?_push_of_some _ ?_
      rw [Heap.get?_update_ne _ _ _ _ (Nat.ne_of_lt lb)]
      exact Heap.get?_push_of_some _ e
    obtain ⟨c, ec⟩ : ∃ c, (sortedAll s.heap (ps.map fun a => Value.ref a.1) (ps.map fun a => Value.ref a.1).toArray).get? (s.heap.objs.size + 1) = some (seqObj "list" (ps.map fun a => Value.ref a.1).toArray c) := by
      have e0 := Heap.get?_push_size ((s.heap.push (seqObj "list" #[] 0)).update s.heap.objs.size (Obj.mapSeq (· ++ (ps.map fun a => Value.ref a.1).toArray))) (o := seqObj "list" (ps.map fun a => Value.ref a.1).toArray 0) rfl
      rw [sz] at e0
      unfold sortedAll sortedHeap
      have e1 := get?_update_seq e0 (fun _ => (#[] : Array Value))
      exact ⟨_, get?_update_seq (Heap.get?_push_of_some _ (Heap.get?_push_of_some _ e1)) _⟩
    refine ⟨.ref (s.heap.objs.size + 1), _, I.laid (t' := s.toks) kp (Nat.le_succ _) (show ObjOk X.prog X.w _ _ _ (.lst (ps.map fun a => V.ref a.1)) from ⟨hz, _, c, r', ec⟩), rfl, q _ ps (I.hok.fresh (Nat.le_succ _)) (List.Perm.refl _) ?_⟩
    match ps, h2 with
    | [], _ => exact .nil
    | [_], _ => exact List.pairwise_singleton _ _
  · obtain ⟨m, F⟩ := I.fr
    refine kat_sorted F (news_all (g := X.base) (h := s.heap)) pl.isList (by omega) (by omega) fun D e1 h' F' N' lt => ?_
    have keep : ∀ b o, b ≠ X.env.locals → s.heap.get? b = some o → h'.get? b = some o := fun b o hb e => by
      cases q : X.base.get? b with
      | some u =>
        have := I.bk b u q
        rw [e] at this; cases this
        exact F'.keep b _ q
      | none => exact (N' (b, o) (.tail _ (mem_allNews hb q e))).1
    have rowAt : ∀ a ∈ ps, RowAt h' a.1 a.2 ∧ a.2 ≠ [] := fun a ha => by
      obtain ⟨ht, hn⟩ := hrow a ha
      obtain ⟨_, its, rv, o, e, c, n, d⟩ := I.hok a.1 _ ht
      refine ⟨⟨o, _, n, keep a.1 o (fun z => ?_) e, c, d, rv⟩, hn⟩
      rw [z, I.free] at ht; cases ht
    obtain ⟨fs, kt, lf, hf⟩ := kat_tups rowAt
    refine kat_kind (T := .type "int") kt (by omega) (fun v hv => ?_) (by decide) ?_
    · obtain ⟨i, t, rfl⟩ := hf v hv
      exact Looks.now
    have n1 : 1 ≤ (ps.map fun a => Value.ref a.1).length := by omega
    refine KOK.wp (c := cf fun i => rk (ps.map (·.2)) ((ps.map (·.2)).getD i [])) (fun i j C hi hj hC => ?_) (fun pp hp => ?_) _ (sort_ok (f := fun i => rk (ps.map (·.2)) ((ps.map (·.2)).getD i [])) n1)
    · have hi' : i < ps.length := by omega
      have hj' : j < ps.length := by omega
      obtain ⟨⟨o, items, n, ho, hc, hd, hv⟩, hn⟩ := rowAt ps[i] (List.getElem_mem hi')
      obtain ⟨⟨o', items', n', ho', hc', hd', hv'⟩, hn'⟩ := rowAt ps[j] (List.getElem_mem hj')
      unfold kas_ask
      have ei : (ps.map fun a => Value.ref a.1).getD i Value.none = .ref ps[i].1 := by simp [hi']
      have ej : (ps.map fun a => Value.ref a.1).getD j Value.none = .ref ps[j].1 := by simp [hj']
      rw [ei, ej]
      refine kat_lt ho hd ho' hd' (vals_lex hv hv' (by simp) ?_)
      have e : cf (fun i => rk (ps.map (·.2)) ((ps.map (·.2)).getD i [])) i j = lx ps[i].2 ps[j].2 := by
        unfold cf
        have e1 : (ps.map (·.2)).getD i [] = ps[i].2 := by simp [hi']
        have e2 : (ps.map (·.2)).getD j [] = ps[j].2 := by simp [hj']
        simp only [e1, e2]
        exact rk_lt (List.mem_map.mpr ⟨ps[i], List.getElem_mem hi', rfl⟩)
      rw [e] at hC
      exact hC
    · obtain ⟨pm, up⟩ := hp
      refine KasFin.intro F' N' (UpdF.head fun x hx => Nat.ne_of_lt (lt x hx)) fun h2' c F2 N2 => ?_
      have pl : pp.toList.Perm (List.range ps.length) := by
        have := pm.toList
        rw [hlen] at this
        simpa using this
      have eo : (pp.toList.map fun i => (ps.map fun a => Value.ref a.1).getD i Value.none) = (pp.toList.map fun i => ps.getD i (0, [])).map fun a => Value.ref a.1 := by
        rw [List.map_map]
        refine List.map_congr_left fun i hi => ?_
        have hi' : i < ps.length := List.mem_range.mp (pl.mem_iff.mp hi)
        simp [hi']
      have perm : (pp.toList.map fun i => ps.getD i (0, [])).Perm ps := by
        have := pl.map fun i => ps.getD i (0, [])
        rwa [range_map] at this
      rw [eo] at N2
      have hzz : ((pp.toList.map fun i => ps.getD i (0, [])).map fun a => V.ref a.1).length ≤ sizeLine := by
        rw [List.length_map, perm.length_eq, sizeLine_eq]; omega
      obtain ⟨I2, hD⟩ := I.sortedTo F F2 N2 lt (vals_of_refs _) hzz
      refine ⟨.ref D, _, I2, rfl, q D _ hD perm ?_⟩
      rw [List.pairwise_iff_getElem]
      intro i j hi hj hij
      simp only [List.length_map, Array.length_toList] at hi hj
      simp only [List.getElem_map, Array.getElem_toList]
      have hn : pp.size = ps.length := by rw [pm.size]; exact hlen
      have key := up i j (Nat.le_of_lt hij) (by omega)
      have a1 : pp[i] < ps.length := List.mem_range.mp (pl.mem_iff.mp (by simp))
      have a2 : pp[j] < ps.length := List.mem_range.mp (pl.mem_iff.mp (by simp))
      unfold g at'  at key
      simp only [hi, hj, getElem?_pos, Option.getD_some] at key
      have e1 : (ps.map (·.2)).getD pp[i] [] = ps[pp[i]].2 := by simp [a1]
      have e2 : (ps.map (·.2)).getD pp[j] [] = ps[pp[j]].2 := by simp [a2]
      rw [e1, e2] at key
      have e3 : ps.getD pp[i] (0, []) = ps[pp[i]] := by simp [a1]
      have e4 : ps.getD pp[j] (0, []) = ps[pp[j]] := by simp [a2]
      rw [e3, e4]
      have := rk_lt (rs := ps.map (·.2)) (a := ps[pp[j]].2) (b := ps[pp[i]].2) (List.mem_map.mpr ⟨_, List.getElem_mem a2, rfl⟩)
      rw [← this]
      simp only [decide_eq_false_iff_not]
      omega
end
end L2
set_option Elab.async false
set_option linter.all false
set_option maxRecDepth 100000
set_option maxHeartbeats 4000000
namespace L2
open PySem PySem.Spec PyProof.Rows
def notStar : Expr → Bool
  | .Starred _ _ => false
  | _ => true
theorem star_cons {e : Expr} {es : List Expr} {env : Env} (h : notStar e = true) : starEach (e :: es) env = (false, eval e env) :: starEach es env := by
  cases e <;> first | rfl | cases h
@[irreducible] def PA2 (X : Cx) (es : List Expr) (t : TA) : Prop := PA X es t
theorem pa_out {X : Cx} {es : List Expr} {t : TA} (h : PA2 X es t) : PA X es t := by unfold PA2 at h; exact h
theorem pa_in {X : Cx} {es : List Expr} {t : TA} (h : PA X es t) : PA2 X es t := by unfold PA2; exact h
theorem pa_n {X : Cx} : PA2 X [] tNil := pa_in pa_nil
theorem pa_c {X : Cx} {e : Expr} {es : List Expr} {te : TE} {t : TA} (ha : PE X e te) (hr : PA2 X es t) (hn : notStar e = true) : PA2 X (e :: es) (tCons te t) := pa_in (pa_cons ha (pa_out hr) (star_cons hn))
@[irreducible] def PSs2 (X : Cx) (es : List Stmt) (t : TS) : Prop := PSs X es t
theorem bl_out {X : Cx} {es : List Stmt} {t : TS} (h : PSs2 X es t) : PSs X es t := by unfold PSs2 at h; exact h
theorem bl_in {X : Cx} {es : List Stmt} {t : TS} (h : PSs X es t) : PSs2 X es t := by unfold PSs2; exact h
theorem bl_1 {X : Cx} {a : Stmt} {t : TS} (h : PS X a t) : PSs2 X [a] t := bl_in (pss_one h)
theorem bl_c {X : Cx} {a b : Stmt} {rest : List Stmt} {t u : TS} (h : PS X a t) (hr : PSs2 X (b :: rest) u) : PSs2 X (a :: b :: rest) (tSeq t u) := bl_in (pss_cons h (bl_out hr))
end L2
namespace L2
open PySem PySem.Spec PyProof.Rows
section
variable {K : PySem.W.Frag} {a : Addr} {xs : List V} {n : Nat} {caps : List Nat} {g : TG} {tc : TT} {te : TE} {σ : St} {H : Hp} {Qf : Addr → Hp → List V → Prop}
theorem comp_of {J : It} (Pv : Nat → St → List V → Hp → Prop) (len : Nat) (h0 : Pv 0 (tau0 n caps σ) [] H) (hn : len ≤ 1000) (hl : ∀ i τ acc H, Pv i τ acc H → acc.length ≤ i)
    (hgo : ∀ i τ acc H, i < len → Pv i τ acc H → J.go i H) (hstop : ∀ τ acc H, Pv len τ acc H → J.stop len H)
    (hs : ∀ i τ acc H (C : St → List V → Hp → Prop), i < len → Pv i τ acc H → (∀ τ acc H, Pv (i + 1) τ acc H → C τ acc H) → ∀ x H', J.yld i H x H' → g x τ H' fun τ2 H2 => tc τ2 H2 fun b H3 => if b = true then te τ2 H3 fun y H4 => C τ2 (acc ++ [y]) H4 else C τ2 acc H3)
    (hd : ∀ τ acc H, Pv len τ acc H → ∀ p, H p = none → Qf p H acc) :
    ∃ W : Nat → Nat → St → List V → Hp → Prop, (∃ m, W 0 m (tau0 n caps σ) [] H) ∧ ∀ i m τ acc H, W i m τ acc H →
      (J.stop i H ∧ acc.length ≤ sizeLine ∧ ∀ p, H p = none → Qf p H acc) ∨
      (J.go i H ∧ acc.length < sizeLine ∧ ∀ x H', J.yld i H x H' → g x τ H' fun τ2 H2 => tc τ2 H2 fun b H3 => if b = true then te τ2 H3 fun y H4 => ∃ m', m' < m ∧ W (i + 1) m' τ2 (acc ++ [y]) H4 else ∃ m', m' < m ∧ W (i + 1) m' τ2 acc H3) := by
  have line : 1001 ≤ sizeLine := by rw [sizeLine_eq]; decide
  refine ⟨fun i m τ acc H => m = len - i ∧ i ≤ len ∧ Pv i τ acc H, ⟨len, by simp, Nat.zero_le _, h0⟩, ?_⟩
  rintro i m τ acc H ⟨rfl, hi, p⟩
  have q := hl i τ acc H p
  by_cases hlt : i < len
  · exact .inr ⟨hgo i τ acc H hlt p, by omega, fun x H' y => hs i τ acc H (fun τ acc H => ∃ m', m' < len - i ∧ m' = len - (i + 1) ∧ i + 1 ≤ len ∧ Pv (i + 1) τ acc H) hlt p (fun τ acc H p' => ⟨len - (i + 1), by omega, rfl, hlt, p'⟩) x H' y⟩
  · have e : i = len := by omega
    subst e
    exact .inl ⟨hstop τ acc H p, by omega, hd τ acc H p⟩
theorem comp_list (Pv : Nat → St → List V → Hp → Prop) (h0 : Pv 0 (tau0 n caps σ) [] H) (hn : xs.length ≤ 1000) (hl : ∀ i τ acc H, Pv i τ acc H → acc.length ≤ i ∧ SqL K H a xs)
    (hs : ∀ i x τ acc H (C : St → List V → Hp → Prop), xs[i]? = some x → Pv i τ acc H → (∀ τ acc H, Pv (i + 1) τ acc H → C τ acc H) → g x τ H fun τ2 H2 => tc τ2 H2 fun b H3 => if b = true then te τ2 H3 fun y H4 => C τ2 (acc ++ [y]) H4 else C τ2 acc H3)
    (hd : ∀ τ acc H, Pv xs.length τ acc H → ∀ p, H p = none → Qf p H acc) :
    ∃ W : Nat → Nat → St → List V → Hp → Prop, (∃ m, W 0 m (tau0 n caps σ) [] H) ∧ ∀ i m τ acc H, W i m τ acc H →
      ((Itl K a).stop i H ∧ acc.length ≤ sizeLine ∧ ∀ p, H p = none → Qf p H acc) ∨
      ((Itl K a).go i H ∧ acc.length < sizeLine ∧ ∀ x H', (Itl K a).yld i H x H' → g x τ H' fun τ2 H2 => tc τ2 H2 fun b H3 => if b = true then te τ2 H3 fun y H4 => ∃ m', m' < m ∧ W (i + 1) m' τ2 (acc ++ [y]) H4 else ∃ m', m' < m ∧ W (i + 1) m' τ2 acc H3) :=
  comp_of (J := Itl K a) Pv xs.length h0 hn (fun i τ acc H p => (hl i τ acc H p).1) (fun i τ acc H hi p => ⟨xs, xs[i], (hl i τ acc H p).2, by simp [hi]⟩) (fun τ acc H p => ⟨xs, (hl _ τ acc H p).2, Nat.le_refl _⟩)
    (fun i τ acc H C hi p c x H' y => by obtain ⟨e, y⟩ := y; subst e; exact hs i x τ acc _ C (y xs (hl i τ acc _ p).2) p c) hd
end
end L2
namespace Sm
open PySem L2 SmSort
def But (p : Addr) (H H' : Hp) : Prop := ∀ b u, b ≠ p → H b = some u → H' b = some u
theorem But.refl (p : Addr) (H : Hp) : But p H H := fun _ _ _ h => h
theorem But.trans {p : Addr} {H H1 H2 : Hp} (a : But p H H1) (b : But p H1 H2) : But p H H2 := fun c u n h => b c u n (a c u n h)
theorem But.set {p : Addr} {H : Hp} {o : HO} : But p H (upd H p o) := fun b u n h => by rw [upd_ne n]; exact h
theorem But.new {p l : Addr} {H : Hp} {o : HO} (h : H l = none) : But p H (upd H l o) := fun b u n e => by rw [upd_ne (ne_of_none e h)]; exact e
def Purse (H : Hp) (p : Addr) : Prop := ∃ a b c : Int, H p = some (.lst [.int a, .int b, .int c])
def Go (p : Addr) (H H' : Hp) : Prop := But p H H' ∧ Purse H' p
theorem Go.trans {p : Addr} {H H1 H2 : Hp} (a : Go p H H1) (b : Go p H1 H2) : Go p H H2 := ⟨a.1.trans b.1, b.2⟩
theorem Go.refl {p : Addr} {H : Hp} (a : Purse H p) : Go p H H := ⟨But.refl p H, a⟩
theorem Purse.new {p l : Addr} {H : Hp} {o : HO} (a : Purse H p) (h : H l = none) : Purse (upd H l o) p := by
  obtain ⟨x, y, z, e⟩ := a
  exact ⟨x, y, z, by rw [upd_ne (ne_of_none e h)]; exact e⟩
theorem Purse.ne {p l : Addr} {H : Hp} (a : Purse H p) (h : H l = none) : l ≠ p := by
  obtain ⟨x, y, z, e⟩ := a
  exact (ne_of_none e h).symm
theorem Go.new {p l : Addr} {H H1 : Hp} {o : HO} (a : Go p H H1) (h : H1 l = none) : Go p H (upd H1 l o) := ⟨a.1.trans (But.new h), a.2.new h⟩
theorem Purse.tup {p t : Addr} {H : Hp} {xs : List V} (a : Purse H p) (h : H t = some (.tup xs)) : t ≠ p := by
  obtain ⟨x, y, z, e⟩ := a
  exact ne_of h e (by intro z; cases z)
def Tups (H H' : Hp) : Prop := ∀ b xs, H b = some (.tup xs) → H' b = some (.tup xs)
theorem Go.tups {p : Addr} {H H' : Hp} (a : Go p H H') (h : Purse H p) : Tups H H' := fun b xs e => a.1 b _ (h.tup e) e
theorem Tups.new {l : Addr} {H : Hp} {o : HO} (h : H l = none) : Tups H (upd H l o) := fun b u e => by rw [upd_ne (ne_of_none e h)]; exact e
theorem Tups.same {H H' : Hp} (h : Same H H') : Tups H H' := fun b u e => h b _ e
structure M4 where
  lo : Int
  hi : Int
  t : Int
  m : Int
def M4.vs (r : M4) : List V := [.int r.lo, .int r.hi, .int r.t, .int r.m]
def apart (a b : M4) : Prop := a.lo ≠ b.lo ∧ a.lo ≠ b.hi ∧ a.hi ≠ b.lo ∧ a.hi ≠ b.hi
structure Good (w : Int) (ms : List M4) : Prop where
  few : ms.length ≤ 60
  each : ∀ r ∈ ms, 0 ≤ r.lo ∧ r.lo < r.hi ∧ r.hi < w ∧ 1 ≤ r.t ∧ r.t ≤ 1000000000 ∧ 1 ≤ r.m ∧ r.m ≤ 99
  order : ms.Pairwise fun a b => a.t < b.t ∨ (a.t = b.t ∧ a.lo < b.lo ∧ apart a b)
def RowsAt (H : Hp) (ps : List (Addr × M4)) : Prop := ∀ a ∈ ps, H a.1 = some (.tup a.2.vs)
structure BookAt (H : Hp) (b : Addr) (rooms : List Int) (tr tm : Addr) (ps : List (Addr × M4)) : Prop where
  book : H b = some (.tup [.ref tr, .ref tm])
  rooms : H tr = some (.tup (rooms.map V.int))
  meets : H tm = some (.tup (ps.map fun a => V.ref a.1))
  rows : RowsAt H ps
theorem RowsAt.tups {H H' : Hp} {ps : List (Addr × M4)} (a : RowsAt H ps) (t : Tups H H') : RowsAt H' ps := fun x hx => t _ _ (a x hx)
theorem BookAt.tups {H H' : Hp} {b tr tm : Addr} {rooms : List Int} {ps : List (Addr × M4)} (a : BookAt H b rooms tr tm ps) (t : Tups H H') : BookAt H' b rooms tr tm ps :=
  ⟨t _ _ a.book, t _ _ a.rooms, t _ _ a.meets, a.rows.tups t⟩
def spPurse (K : PySem.W.Frag) : Sp := fun vs H Q _ => ∃ (a : Addr) (ns : List Int) (k : Nat), vs = [.ref a, .int k] ∧ SqL K H a (ns.map V.int) ∧ k < 1000 ∧ ∀ p H', H p = none → Purse H' p → Same H H' → Q (.ref p) H'
def spTake : Sp := fun vs H Q _ => ∃ p n, vs = [.ref p, .int n] ∧ 0 < n ∧ n < 2 ^ 200 ∧ Purse H p ∧ ∀ d H', 0 ≤ d → d < n → Go p H H' → Q (.int d) H'
def spRooms : Sp := fun vs H Q _ => ∃ p, ∃ n : Nat, vs = [.ref p, .int n] ∧ n ≤ 1000 ∧ Purse H p ∧ ∀ (t : Addr) (rooms : List Int) (H' : Hp), Go p H H' → H' t = some (.tup (rooms.map V.int)) → rooms.length = n → (∀ r ∈ rooms, (0 : Int) ≤ r ∧ r ≤ 99) → Q (.ref t) H'
def spStep : Sp := fun vs H Q _ => ∃ p, vs = [.ref p] ∧ Purse H p ∧ ∀ d H', 0 ≤ d → d ≤ 16000000 → Go p H H' → Q (.int d) H'
def spMeetings : Sp := fun vs H Q _ => ∃ p, ∃ w : Int, ∃ n : Nat, vs = [.ref p, .int w, .int n] ∧ n ≤ 60 ∧ w < 1000 ∧ (n = 0 ∨ 2 ≤ w) ∧ Purse H p ∧
  ∀ (t : Addr) (ps : List (Addr × M4)) (H' : Hp), Go p H H' → H' t = some (.tup (ps.map fun a => V.ref a.1)) → RowsAt H' ps → Good w (ps.map (·.2)) → ps.length = n → Q (.ref t) H'
def spBook : Sp := fun vs H Q _ => ∃ p, ∃ a : Int, ∃ n : Nat, vs = [.ref p, .int a, .int n] ∧ 1 ≤ a ∧ a ≤ 100 ∧ n ≤ 60 ∧ Purse H p ∧
  ∀ (b : Addr) (rooms : List Int) (tr tm : Addr) (ps : List (Addr × M4)) (H' : Hp), Go p H H' → BookAt H' b rooms tr tm ps → 1 ≤ rooms.length → (rooms.length : Int) ≤ a → (∀ r ∈ rooms, (0 : Int) ≤ r ∧ r ≤ 99) → Good rooms.length (ps.map (·.2)) → ps.length ≤ n → Q (.ref b) H'
theorem iteD {c A B : Prop} [Decidable c] (h1 : c → A) (h2 : ¬ c → B) : if decide c = true then A else B := by
  by_cases h : c
  · rw [if_pos (decide_eq_true h)]; exact h1 h
  · rw [if_neg (by simpa using h)]; exact h2 h
theorem iteB0 {c : Bool} {A B : Prop} (hc : c = false) (h : B) : if c = true then A else B := by
  rw [if_neg (by rw [hc]; exact Bool.false_ne_true)]; exact h
theorem iteB1 {c : Bool} {A B : Prop} (hc : c = true) (h : A) : if c = true then A else B := by
  rw [if_pos hc]; exact h
theorem iteB {c : Bool} {A B : Prop} (h1 : c = true → A) (h2 : c = false → B) : if c = true then A else B := by
  cases c with
  | true => exact h1 rfl
  | false => exact h2 rfl
theorem same_new {H : Hp} {p : Addr} {o : HO} (h : H p = none) : Same H (upd H p o) := fun b u e => by
  rw [upd_ne (ne_of_none e h)]; exact e
def M4.row (r : M4) : List Int := [r.t, r.lo, r.hi, r.m]
structure FOk (w when' : Int) (bs : List Int) (fs : List (Addr × M4)) : Prop where
  each : ∀ a ∈ fs, 0 ≤ a.2.lo ∧ a.2.lo < a.2.hi ∧ a.2.hi < w ∧ 1 ≤ a.2.t ∧ a.2.t ≤ when' ∧ 1 ≤ a.2.m ∧ a.2.m ≤ 99
  pw : fs.Pairwise fun a b => a.2.t = b.2.t → apart a.2 b.2
  bz : ∀ a ∈ fs, a.2.t = when' → a.2.lo ∈ bs ∧ a.2.hi ∈ bs
theorem FOk.step {w wh gap one other m : Int} {bs bs' : List Int} {fs : List (Addr × M4)} {a : Addr} (F : FOk w wh bs fs) (h1 : 1 ≤ wh) (g0 : 0 ≤ gap) (o0 : 0 ≤ one) (o1 : one < w) (p0 : 0 ≤ other) (p1 : other < w) (ne : one ≠ other)
    (m0 : 1 ≤ m) (m1 : m ≤ 99) (hg : gap = 0 → one ∉ bs ∧ other ∉ bs) (hb : ∀ x ∈ bs, gap = 0 → x ∈ bs') (hb1 : one ∈ bs') (hb2 : other ∈ bs') :
    FOk w (wh + gap) bs' (fs ++ [(a, ⟨if other < one then other else one, if other > one then other else one, wh + gap, m⟩)]) := by
  refine ⟨fun b hb => ?_, ?_, fun b hm e => ?_⟩
  · rcases List.mem_append.mp hb with h | h
    · obtain ⟨a1, a2, a3, a4, a5, a6, a7⟩ := F.each b h
      exact ⟨a1, a2, a3, a4, by omega, a6, a7⟩
    · cases List.mem_singleton.mp h
      by_cases c : other < one
      · rw [if_pos c, if_neg (by omega)]; exact ⟨p0, c, o1, by show 1 ≤ wh + gap; omega, Int.le_refl _, m0, m1⟩
      · rw [if_neg c, if_pos (by omega)]; exact ⟨o0, by show one < other; omega, p1, by show 1 ≤ wh + gap; omega, Int.le_refl _, m0, m1⟩
  · rw [List.pairwise_append]
    refine ⟨F.pw, List.pairwise_singleton _ _, fun b hb c hc e => ?_⟩
    cases List.mem_singleton.mp hc
    have e' : b.2.t = wh + gap := e
    obtain ⟨a1, a2, a3, a4, a5, a6, a7⟩ := F.each b hb
    have g : gap = 0 := by omega
    obtain ⟨x1, x2⟩ := F.bz b hb (by omega)
    obtain ⟨n1, n2⟩ := hg g
    have q1 : b.2.lo ≠ one := fun z => n1 (z ▸ x1)
    have q2 : b.2.lo ≠ other := fun z => n2 (z ▸ x1)
    have q3 : b.2.hi ≠ one := fun z => n1 (z ▸ x2)
    have q4 : b.2.hi ≠ other := fun z => n2 (z ▸ x2)
    unfold apart
    dsimp only
    by_cases c : other < one
    · rw [if_pos c, if_neg (by omega)]; exact ⟨q2, q1, q4, q3⟩
    · rw [if_neg c, if_pos (by omega)]; exact ⟨q1, q2, q3, q4⟩
  · rcases List.mem_append.mp hm with h | h
    · obtain ⟨a1, a2, a3, a4, a5, a6, a7⟩ := F.each b h
      obtain ⟨x1, x2⟩ := F.bz b h (by omega)
      exact ⟨hb _ x1 (by omega), hb _ x2 (by omega)⟩
    · cases List.mem_singleton.mp h
      by_cases c : other < one
      · rw [if_pos c, if_neg (by omega)]; exact ⟨hb2, hb1⟩
      · rw [if_neg c, if_pos (by omega)]; exact ⟨hb1, hb2⟩
def M4.late (l : Int) (r : M4) : M4 := ⟨r.lo, r.hi, r.t + l, r.m⟩
theorem FOk.good {w wh l : Int} {bs : List Int} {fs qs : List (Addr × M4)} (F : FOk w wh bs fs) (n : fs.length ≤ 60) (l0 : 0 ≤ l) (l1 : fs ≠ [] → wh + l ≤ 1000000000) (p : qs.Perm fs) (s : qs.Pairwise fun a b => lx b.2.row a.2.row = false) :
    Good w (qs.map fun a => a.2.late l) := by
  refine ⟨by rw [List.length_map, p.length_eq]; exact n, fun r hr => ?_, ?_⟩
  · obtain ⟨a, ha, rfl⟩ := List.mem_map.mp hr
    have hm := p.mem_iff.mp ha
    obtain ⟨a1, a2, a3, a4, a5, a6, a7⟩ := F.each a hm
    have := l1 (List.ne_nil_of_mem hm)
    unfold M4.late
    exact ⟨a1, a2, a3, by show 1 ≤ a.2.t + l; omega, by show a.2.t + l ≤ 1000000000; omega, a6, a7⟩
  · rw [List.pairwise_map]
    have ap : qs.Pairwise fun a b => a.2.t = b.2.t → apart a.2 b.2 := (List.Perm.pairwise_iff (fun {x y} h e => by
      obtain ⟨a1, a2, a3, a4⟩ := h e.symm
      exact ⟨a1.symm, a3.symm, a2.symm, a4.symm⟩) p).mpr F.pw
    refine (s.and ap).imp fun {a b} ⟨h1, h2⟩ => ?_
    unfold M4.late
    dsimp only
    unfold M4.row lx at h1
    by_cases e : a.2.t = b.2.t
    · have q := h2 e
      rw [if_pos e.symm] at h1
      unfold lx at h1
      rw [if_neg fun z => q.1 z.symm] at h1
      simp only [decide_eq_false_iff_not] at h1
      refine .inr ⟨by omega, ?_, q⟩
      have := q.1
      omega
    · rw [if_neg fun z => e z.symm] at h1
      simp only [decide_eq_false_iff_not] at h1
      exact .inl (by omega)
def toM4 (r : List Int) : M4 := ⟨r.getD 1 0, r.getD 2 0, r.getD 0 0, r.getD 3 0⟩
theorem rows_back {fs : List (Addr × M4)} {qs : List (Addr × List Int)} (p : qs.Perm (fs.map fun a => (a.1, a.2.row))) (s : qs.Pairwise fun a b => lx b.2 a.2 = false) :
    ∃ rs : List (Addr × M4), rs.Perm fs ∧ (rs.Pairwise fun a b => lx b.2.row a.2.row = false) ∧ qs = rs.map fun a => (a.1, a.2.row) := by
  have e : qs = (qs.map fun a => (a.1, toM4 a.2)).map fun a => (a.1, a.2.row) := by
    rw [List.map_map]
    refine (List.map_id qs).symm.trans (List.map_congr_left fun x hx => ?_)
    obtain ⟨a, _, rfl⟩ := List.mem_map.mp (p.mem_iff.mp hx)
    rfl
  refine ⟨qs.map fun a => (a.1, toM4 a.2), ?_, ?_, e⟩
  · have := p.map fun a => (a.1, toM4 a.2)
    rw [List.map_map] at this
    refine this.trans (.of_eq ?_)
    refine (List.map_congr_left fun x _ => ?_).trans (List.map_id fs)
    rfl
  · rw [e, List.pairwise_map] at s
    exact s
theorem flat_ints (bs : List Int) : (bs.map V.int).all flatV = true := by
  rw [List.all_eq_true]
  intro x hx
  obtain ⟨b, _, rfl⟩ := List.mem_map.mp hx
  rfl
theorem inV_ints {x : Int} {bs : List Int} : inV (.int x) (bs.map V.int) = decide (x ∈ bs) := by
  unfold inV
  induction bs with
  | nil => rfl
  | cons b bs ih =>
    rw [List.map_cons, List.any_cons, ih]
    by_cases h : x = b
    · subst h; simp [eqV]
    · have h' : ¬ b = x := fun z => h z.symm
      simp [eqV, h, h']
def PvM (p lf : Addr) (w : Int) (n : Nat) (H : Hp) (i : Nat) (σ : St) (H3 : Hp) : Prop :=
  ∃ v6 v7 v8 v9 v10 wh lb bs, ∃ fs : List (Addr × M4), σ = [some (.ref p), some (.int w), some (.int n), some (.ref lf), some (.int wh), some (.ref lb), v6, v7, v8, v9, v10, none] ∧
    H3 lf = some (.lst (fs.map fun a => V.ref a.1)) ∧ H3 lb = some (.lst (List.map V.int bs)) ∧ lb ≠ lf ∧ lb ≠ p ∧ (∀ a ∈ fs, H3 a.1 = some (.tup (a.2.row.map V.int))) ∧ FOk w wh bs fs ∧ fs.length = i ∧ bs.length ≤ 2 * i ∧ 1 ≤ wh ∧ wh ≤ 10000000 + 16000000 * i ∧ Go p H H3
theorem PvM.step {p lf lb t : Addr} {w wh gap one other m : Int} {n i : Nat} {H Hx : Hp} {bs bs' : List Int} {fs : List (Addr × M4)} {v6 v7 v8 v9 v10 : Option V} (npf : lf ≠ p) (hlf : H lf = none)
    (F : FOk w wh bs fs) (lenf : fs.length = i) (lenb : bs'.length ≤ 2 * i + 2) (wh1 : 1 ≤ wh) (wh2 : wh ≤ 10000000 + 16000000 * i) (hf : Hx lf = some (.lst (fs.map fun a => V.ref a.1))) (hb : Hx lb = some (.lst (List.map V.int bs'))) (nb : lb ≠ lf) (nbp : lb ≠ p)
    (rows : ∀ a ∈ fs, Hx a.1 = some (.tup (a.2.row.map V.int))) (go : Go p H Hx) (ht : Hx t = none)
    (g0 : 0 ≤ gap) (g1 : gap ≤ 16000000) (o0 : 0 ≤ one) (o1 : one < w) (p0 : 0 ≤ other) (p1 : other < w) (ne : one ≠ other) (m0 : 1 ≤ m) (m1 : m ≤ 99) (hg : gap = 0 → one ∉ bs ∧ other ∉ bs) (hb0 : ∀ x ∈ bs, gap = 0 → x ∈ bs') (hb1 : one ∈ bs') (hb2 : other ∈ bs') :
    PvM p lf w n H (i + 1) [some (.ref p), some (.int w), some (.int n), some (.ref lf), some (.int (wh + gap)), some (.ref lb), v6, v7, v8, v9, v10, none]
      (upd (upd Hx t (.tup [.int (wh + gap), .int (if other < one then other else one), .int (if other > one then other else one), .int m])) lf (.lst ((fs.map fun a => V.ref a.1) ++ [.ref t]))) := by
  have ntf : t ≠ lf := (ne_of_none hf ht).symm
  refine ⟨v6, v7, v8, v9, v10, wh + gap, lb, bs', fs ++ [(t, ⟨if other < one then other else one, if other > one then other else one, wh + gap, m⟩)], rfl, by rw [upd_same, List.map_append]; rfl, ?_, nb, nbp, fun a ha => ?_, F.step wh1 g0 o0 o1 p0 p1 ne m0 m1 hg hb0 hb1 hb2, by rw [List.length_append, lenf]; rfl, by omega, by omega, by omega, fun b u nb e => ?_, ?_⟩
  · rw [upd_ne nb, upd_ne (ne_of_none hb ht)]; exact hb
  · rcases List.mem_append.mp ha with h | h
    · have := rows a h
      rw [upd_ne (ne_of this hf (by intro z; cases z)), upd_ne (ne_of_none this ht)]; exact this
    · cases List.mem_singleton.mp h
      rw [upd_ne ntf, upd_same]; rfl
  · rw [upd_ne (ne_of_none e hlf), upd_ne (ne_of_none (go.1 b u nb e) ht)]; exact go.1 b u nb e
  · have := go.2.new (o := .tup [.int (wh + gap), .int (if other < one then other else one), .int (if other > one then other else one), .int m]) ht
    obtain ⟨x, y, z, e⟩ := this
    exact ⟨x, y, z, by rw [upd_ne npf.symm]; exact e⟩
theorem oth_ok {one x w : Int} (o0 : 0 ≤ one) (o1 : one < w) (x0 : 0 ≤ x) (x1 : x < w - 1) : 0 ≤ (one + 1 + x) % w ∧ (one + 1 + x) % w < w ∧ one ≠ (one + 1 + x) % w := by
  refine ⟨Int.emod_nonneg _ (by omega), Int.emod_lt_of_pos _ (by omega), ?_⟩
  by_cases h : one + 1 + x < w
  · rw [Int.emod_eq_of_lt (by omega) h]; omega
  · have e : (one + 1 + x) % w = (one + 1 + x - w) % w := by
      have : one + 1 + x = (one + 1 + x - w) + w := by omega
      rw [this, Int.add_emod_right]; congr 1; omega
    rw [e, Int.emod_eq_of_lt (by omega) (by omega)]; omega
theorem Go.same {p : Addr} {H H1 H2 : Hp} (a : Go p H H1) (s : Same H1 H2) : Go p H H2 := ⟨fun b u n e => s b u (a.1 b u n e), by obtain ⟨x, y, z, e⟩ := a.2; exact ⟨x, y, z, s _ _ e⟩⟩
theorem map_get {α : Type} {f : α → V} {l : List α} {i : Nat} {x : V} (h : (l.map f)[i]? = some x) : ∃ r, l[i]? = some r ∧ x = f r := by
  rw [List.getElem?_map] at h
  cases e : l[i]? with
  | none => rw [e] at h; cases h
  | some r => rw [e] at h; exact ⟨r, rfl, (Option.some.inj h).symm⟩
theorem take_snoc {α : Type} {l : List α} {i : Nat} {r : α} (h : l[i]? = some r) : l.take (i + 1) = l.take i ++ [r] := by
  rw [List.take_add_one, h]; rfl
theorem But.same {p : Addr} {H H1 H2 : Hp} (hp : H p = none) (s : Same H H1) (g : But p H1 H2) : Same H H2 := fun b u e => g b u (ne_of_none e hp) (s b u e)
theorem Same.put {l : Addr} {H H' : Hp} {o : HO} (h : H l = none) (s : Same H H') : Same H (upd H' l o) := fun b u e => by rw [upd_ne (ne_of_none e h)]; exact s b u e
theorem BookAt.same {H H' : Hp} {b tr tm : Addr} {rooms : List Int} {ps : List (Addr × M4)} (a : BookAt H b rooms tr tm ps) (t : Same H H') : BookAt H' b rooms tr tm ps := a.tups (Tups.same t)
theorem tyS_lst {H : Hp} {l : Addr} {xs : List V} (h : H l = some (.lst xs)) : tyS H (.ref l) = some "list" := by simp only [tyS, h]
def spWhole : Sp := fun vs H Q _ => ∃ x t, vs = [x] ∧ tyS H x = some t ∧ Q (.bl (t == "int")) H
def inB (lo hi : Int) : V → Bool
  | .int i => decide (lo ≤ i) && decide (i ≤ hi)
  | _ => false
def spWithin : Sp := fun vs H Q _ => ∃ x t lo hi, vs = [x, .int lo, .int hi] ∧ tyS H x = some t ∧ Q (.bl (inB lo hi x)) H
theorem tyS_int {H : Hp} {x : V} (h : tyS H x = some "int") : ∃ i, x = .int i := by
  cases x with
  | int i => exact ⟨i, rfl⟩
  | ref a =>
    unfold tyS at h
    dsimp only at h
    split at h <;> simp at h
  | _ => simp [tyS] at h
theorem inB_no {H : Hp} {x : V} {t : String} {lo hi : Int} (h : tyS H x = some t) (n : ¬ t = "int") : inB lo hi x = false := by
  cases x with
  | int i => simp [tyS] at h; exact absurd h.symm n
  | _ => rfl
def hasW (w : Int) (r : M4) : Bool := decide (r.lo = w) || decide (r.hi = w)
def numsTo (ms : List M4) (w : Int) : Nat → List Int
  | 0 => []
  | i + 1 => numsTo ms w i ++ (if (ms[i]?).any (hasW w) = true then [(i : Int)] else [])
end Sm
namespace Sm
open PySem L2 SmSort
end Sm
namespace L2
open PySem PySem.Spec PyProof.Rows
def rCatT3 (K : PySem.W.Frag) : R2 := fun x y H Q => ∃ a b xs ys, x = .ref a ∧ y = .ref b ∧ SqT K H a xs ∧ SqT K H b ys ∧ xs.length + ys.length ≤ sizeLine ∧
  (xs = [] → Q (.ref b) H) ∧ (xs ≠ [] → ys = [] → Q (.ref a) H) ∧ (xs ≠ [] → ys ≠ [] → ∀ p, H p = none → Q (.ref p) (upd H p (.tup (xs ++ ys))))
theorem op_catT3 {X : Cx} {K : PySem.W.Frag} (hK : X.K = K) : OpR X (binaryOp .Add) (rCatT3 K) := by
  subst hK
  intro pins s σ H x y v u Q I rx ry h
  obtain ⟨a, b, xs, ys, rfl, rfl, ha, hb, hz, q0, q1, q2⟩ := h
  by_cases hx : xs = []
  · cases rx
    cases ry
    obtain ⟨its, r1, p1, _⟩ := I.tuple ha
    obtain ⟨its2, r2, p2, _⟩ := I.tuple hb
    have he : its = [] := r1.nil_iff.mpr hx
    obtain ⟨m, F⟩ := I.fr
    exact add_tuples F (news_all (g := X.base) (h := s.heap)) p1 p2 (fun _ => ⟨.ref b, H, I, rfl, q0 hx⟩) (fun z => absurd he z) (fun z => absurd he z) (by rw [← r1.length, ← r2.length]; exact hz)
  · exact op_catT pins s σ H _ _ v u Q I rx ry ⟨a, b, xs, ys, rfl, rfl, ha, hb, hx, hz, q1 hx, q2 hx⟩
end L2
set_option Elab.async false
set_option linter.all false
set_option maxRecDepth 100000
set_option maxHeartbeats 400000
namespace L2
open PySem PySem.Spec PyProof.Rows
section
variable {P : Program} {w : World} {H H' : Hp} {h : Heap} {a : Addr} {o : HO}
theorem ObjOk.has (x : ObjOk P w H h a o) : ∃ u, h.get? a = some u := by
  cases o with
  | lst xs => obtain ⟨_, _, _, _, e⟩ := x; exact ⟨_, e⟩
  | tup xs => obtain ⟨_, _, _, u, e, _⟩ := x; exact ⟨u, e⟩
  | dK kvs => obtain ⟨_, _, _, _, u, _, _, e, _⟩ := x; exact ⟨u, e⟩
  | dT kvs => obtain ⟨_, _, _, _, u, _, _, e, _⟩ := x; exact ⟨u, e⟩
  | set S n => obtain ⟨u, _, _, _, e, _⟩ := x; exact ⟨u, e⟩
  | ins C dx fs => obtain ⟨_, _, _, e, _⟩ := x; exact ⟨_, e⟩
  | own y => exact x
  | xd fs => obtain ⟨_, ⟨u, _, _, e, _⟩, _⟩ := x; exact ⟨u, e⟩
  | rng lo hi => obtain ⟨_, _, _, e⟩ := x; exact ⟨_, e⟩
  | frz ob u => obtain ⟨e, _⟩ := x; exact ⟨_, e⟩
  | tbl ps => exact ⟨_, (show h.get? a = some _ from x)⟩
  | met f y => exact ⟨_, (show h.get? a = some _ from x)⟩
  | ext φ => exact x.2.1
end
structure XL (P : Program) (w : World) (l : List Env) (H : Hp) (s : Shared) (H' : Hp) (B : Heap) (s' : Shared) : Prop where
  os : s'.os = s.os
  bare : AllBare s'.gens
  keepB : ∀ b o, s.heap.get? b = some o → H b = none → b ∉ frs l → B.get? b = some o
  allB : ∀ b o, s.heap.get? b = some o → b ∉ frs l → ∃ o', B.get? b = some o'
  trkB : ∀ b u, H' b = some u → ∃ o, B.get? b = some o
  frm : ∀ b o, s.heap.get? b = some o → b ∈ frs l → ∃ sl, s'.heap.get? b = some { o with slots := sl }
  free : ∀ b o, s.heap.get? b = some o → H b = none → H' b = none
  tups : ∀ b xs, H b = some (.tup xs) → H' b = some (.tup xs)
  frzs : ∀ b o u, H b = some (.frz o u) → H' b = some (.frz o u)
  tbls : ∀ b ps, H b = some (.tbl ps) → ∃ more, H' b = some (.tbl (ps ++ more))
  hok : HOk P w H' s'.heap
  stays : B.StaysIn s'.heap
section
variable {P : Program} {w : World} {l : List Env} {H H' : Hp} {s s' : Shared} {B base : Heap}
theorem XL.un (x : XL P w l H s H' B s') : Un (frs l) [] H H' s.heap s'.heap where
  keep := fun b o e n hb _ => x.stays _ _ (x.keepB b o e n hb)
  slot := fun b o e n hb _ => x.frm b o e hb
  free := fun b o e n _ => x.free b o e n
  there := fun b o e _ => by
    by_cases hb : b ∈ frs l
    · obtain ⟨sl, q⟩ := x.frm b o e hb; exact ⟨_, q⟩
    · obtain ⟨o', q⟩ := x.allB b o e hb; exact ⟨o', x.stays _ _ q⟩
  tups := x.tups
  frzs := x.frzs
  tbls := x.tbls
theorem XL.step {h2 : Heap} (x : XL P w l H s H' B s') (ff : s.heap.FunFrames base l) (k : B.StaysIn h2) (u : s'.heap.UpToSlots h2) : XL P w l H s H' B { s' with heap := h2 } where
  os := x.os
  bare := x.bare
  keepB := x.keepB
  allB := x.allB
  trkB := x.trkB
  frm := fun b o e hb => by
    obtain ⟨sl, q⟩ := x.frm b o e hb
    obtain ⟨_, o1, e1, nf⟩ := ff.mem hb
    rw [e] at e1; cases e1
    obtain ⟨sl2, q2⟩ := u b _ q nf
    exact ⟨sl2, q2⟩
  free := x.free
  tups := x.tups
  frzs := x.frzs
  tbls := x.tbls
  hok := fun a o e => by
    have st : ∀ b v, H' b = some v → ∀ ob, s'.heap.get? b = some ob → h2.get? b = some ob := fun b v hv ob q => by
      obtain ⟨o1, e1⟩ := x.trkB b v hv
      have z := x.stays _ _ e1
      rw [q] at z; cases z
      exact k _ _ e1
    refine (x.hok a o e).stay (fun b v hb q => ?_) (fun _ q => q) fun _ _ q => q
    rcases hb with rfl | hb
    · exact st _ _ e _ q
    · exact st _ _ hb _ q
  stays := k
end
def TrD (h B : Heap) (e : Addr) (cls fl : Value) : Prop := ∃ oe vs T oT ts, h.get? e = some oe ∧ oe.cls = cls ∧ oe.dict = none ∧ oe.data = .fields vs ∧ vs[1]? = some (Value.ref T) ∧ B.get? T = none ∧ T ≠ e ∧ h.get? T = some oT ∧ oT.data = .fields ts ∧ ts[3]? = some fl
def MdD (h : Heap) (e : Addr) (cls : Value) : Prop := ∃ oe vs, h.get? e = some oe ∧ oe.cls = cls ∧ oe.dict = none ∧ oe.data = .fields vs ∧ vs[1]? = some Value.none
def CXE (P : Program) (w : World) : CXT := fun l H s E e s' => ∃ a cls H' B, e = Value.ref a ∧ XL P w l H s H' B s' ∧ B.get? a = none ∧ s'.heap.FunFrames B l ∧ TrD s'.heap B a cls Value.none ∧ E cls none H'
def FlyS (B : Heap) (env : Env) (outer : List Env) (a : Addr) (cls : Value) (h : Heap) : Prop :=
  B.get? a = none ∧ h.FunFrames B (env :: outer) ∧ (MdD h a cls ∨ TrD h B a cls Value.none ∨ ∃ L, env.frame = some L ∧ TrD h B a cls (rawInt L))
def WX (X : Cx) (E : XK) : Value → Shared → Prop := fun e s' => (X.A.frames = some (X.env :: X.outer) ∧ X.env.frame = some X.env.locals ∧ X.s₀.heap.FunFrames X.base X.outer) ∧ ∃ a cls H' B, e = Value.ref a ∧ XL X.prog X.w X.outer X.H₀ X.s₀ H' B s' ∧ FlyS B X.env X.outer a cls s'.heap ∧ E cls none H'
abbrev Cx.exc (X : Cx) (E : XK) : Cx := X.wish (WX X E)
theorem rec_far {h B : Heap} {T : Addr} {oT : Obj} {ts : Array Value} (hT : h.get? T = some oT) (hdT : oT.data = .fields ts) : ∀ b o, h.get? b = some o → (∀ vs, o.data ≠ .fields vs) → b ≠ T := fun b o e nf z => by
  subst z; rw [hT] at e; cases e; exact nf _ hdT
theorem laid_entry {g B : Heap} {e : Addr} {oe : Obj} {vs ts : Array Value} {fl : Value} (he : g.get? e = some oe) (hdc : oe.dict = none) (hd : oe.data = .fields vs) (sz : 1 < vs.size) (kb : B.StaysIn g) (h3 : ts[3]? = some fl) :
    (∀ b o, b ≠ e → g.get? b = some o → ((g.push { cls := .type "traceback", dict := none, data := .fields ts }).update e (Obj.mapFields (·.setIfInBounds 1 (Value.ref g.objs.size)))).get? b = some o) ∧
    TrD ((g.push { cls := .type "traceback", dict := none, data := .fields ts }).update e (Obj.mapFields (·.setIfInBounds 1 (Value.ref g.objs.size)))) B e oe.cls fl := by
  have he2 := Heap.get?_push_of_some (h := g) { cls := .type "traceback", dict := none, data := .fields ts } he
  have ne : g.objs.size ≠ e := fun z => absurd (Heap.lt_size he) (by rw [z]; exact Nat.lt_irrefl _)
  have hd3 := Obj.data_mapFields hd (·.setIfInBounds 1 (Value.ref g.objs.size))
  refine ⟨fun b o nb eb => ?_, _, _, g.objs.size, { cls := .type "traceback", dict := none, data := .fields ts }, ts, Heap.get?_update_self _ he2 (Obj.isFreed_of_fields hd3), Obj.cls_mapFields _ _, ?_, hd3, by simp [sz], kb.fresh, ne, ?_, rfl, h3⟩
  · rw [Heap.get?_update_other _ _ (Ne.symm nb)]; exact Heap.get?_push_of_some _ eb
  · obtain ⟨c0, d0, dt0, sl0⟩ := oe
    cases dt0 <;> first | exact hdc | cases hd
  · rw [Heap.get?_update_other _ _ (Ne.symm ne)]; exact Heap.get?_push_size g rfl
section
variable {M : Model} {A : Around} {Ex : Value → Shared → Prop} {s : Shared} {B : Heap} {env : Env} {outer : List Env} {a L : Addr} {cls : Value} {Q : Unit → Shared → Prop}
theorem entry_fly {oe : Obj} {vs : Array Value} {head : Value} {hn : Bool} (hfr : A.frames = some (env :: outer)) (hf : env.frame = some L) (hk : B.StaysIn s.heap) (hl : s.heap.FunFrames B (env :: outer)) (nb : B.get? a = none) (he : s.heap.get? a = some oe) (hdc : oe.dict = none) (hd : oe.data = .fields vs) (sz : 1 < vs.size)
    (q : ∀ h', B.StaysIn h' → s.heap.UpToSlots h' → h'.FunFrames B (env :: outer) → TrD h' B a oe.cls (rawInt L) → Q () { s with heap := h' }) :
    wpAny M A (do let v ← frameOf env; let pl ← entryPlaceOf L hn; let b ← EntryCells.newEntry head v .none (rawInt L) .none pl; setField (.ref a) 1 b) Q Ex s := by
  have nf : a ∉ (env :: outer).filterMap (·.frame) := fun hm => by
    obtain ⟨_, o, ho, z⟩ := hl.mem hm
    rw [he] at ho; cases ho; exact z vs hd
  refine wpAny_bind (wpAny_frameOf_fun hfr hl hf fun g sl => wpAny_bind (wpAny_entryPlaceOf fun pl ip => ?_))
  unfold EntryCells.newEntry newFields
  refine wpAny_bind (wpAny_newObj_type ?_ (ip.sizeOk5 _ _ _ _ _))
  have eg : g.get? a = some oe := (sl.2.1 a nf).trans he
  have kg : B.StaysIn g := fun b o e => (sl.2.1 b fun hm => by rw [(hl.mem hm).1] at e; cases e).trans (hk b o e)
  refine wpAny_setField (Heap.get?_push_of_some _ eg) hd sz ?_
  have y := laid_entry (B := B) (fl := rawInt L) (ts := ([head, Value.ref L, Value.none, rawInt L, Value.none] ++ (if pl.isEmpty then List.replicate 6 Value.none else pl)).toArray) eg hdc hd sz kg (by first | (simp; done) | (rcases ip with rfl | ⟨_, _, _, _, _, _, _, rfl⟩ <;> simp))
  have far := rec_far (B := B) he hd
  refine q _ (fun b o e => y.1 b o (fun z => by rw [z, nb] at e; cases e) (kg b o e)) (fun b o e nf => ?_) (hl.of_keeps fun b o e nf => ?_) y.2
  · obtain ⟨s2, e2⟩ := sl.2.2 b o e
    exact ⟨s2, y.1 b _ (far b o e nf) e2⟩
  · obtain ⟨s2, e2⟩ := sl.2.2 b o e
    exact ⟨_, y.1 b _ (far b o e nf) e2, rfl⟩
theorem set_entry {B : Heap} {h : Heap} {cls fl fl2 : Value} {oe oT : Obj} {vs ts : Array Value} {T : Addr} (he : h.get? a = some oe) (hc : oe.cls = cls) (hdc : oe.dict = none) (hd : oe.data = .fields vs) (h1 : vs[1]? = some (Value.ref T)) (hnT : B.get? T = none) (hTe : T ≠ a) (hT : h.get? T = some oT) (hdT : oT.data = .fields ts) (sz : 3 < ts.size) (hk : B.StaysIn h) (hl : h.FunFrames B (env :: outer)) :
    B.StaysIn (h.update T (Obj.mapFields (·.setIfInBounds 3 fl2))) ∧ h.UpToSlots (h.update T (Obj.mapFields (·.setIfInBounds 3 fl2))) ∧ (h.update T (Obj.mapFields (·.setIfInBounds 3 fl2))).FunFrames B (env :: outer) ∧ TrD (h.update T (Obj.mapFields (·.setIfInBounds 3 fl2))) B a cls fl2 ∧ (h.update T (Obj.mapFields (·.setIfInBounds 3 fl2))).get? a = some oe := by
  have far : ∀ b, b ≠ T → (h.update T (Obj.mapFields (·.setIfInBounds 3 fl2))).get? b = h.get? b := fun b hb => Heap.get?_update_other _ _ (Ne.symm hb)
  have nrec := rec_far (B := B) hT hdT
  have ea := (far a (Ne.symm hTe)).trans he
  exact ⟨fun b o e => (far b (fun z => by subst z; rw [hnT] at e; cases e)).trans (hk _ _ e), fun b o e nf => ⟨o.slots, (far b (nrec b o e nf)).trans e⟩, hl.of_keeps fun b o e nf => ⟨o, (far b (nrec b o e nf)).trans e, rfl⟩,
    ⟨oe, vs, T, _, _, ea, hc, hdc, hd, h1, hnT, hTe, Heap.get?_update_self _ hT (Obj.isFreed_of_fields (Obj.data_mapFields hdT _)), Obj.data_mapFields hdT _, by simp [sz]⟩, ea⟩
theorem note_fly (hfr : A.frames = some (env :: outer)) (hf : env.frame = some L) (hk : B.StaysIn s.heap) (x : FlyS B env outer a cls s.heap)
    (q : ∀ h', B.StaysIn h' → s.heap.UpToSlots h' → h'.FunFrames B (env :: outer) → TrD h' B a cls (rawInt L) → Q () { s with heap := h' }) : wpAny M A (noteFrame (.ref a) env) Q Ex s := by
  obtain ⟨hn, hl, ⟨oe, vs, he, hc, hdc, hd, h1⟩ | ⟨oe, vs, T, oT, ts, he, hc, hdc, hd, h1, hnT, hTe, hT, hdT, h3⟩ | ⟨L', hL, ht⟩⟩ := x
  · subst hc
    unfold noteFrame
    rw [hf]
    dsimp only
    refine wpAny_bind (wpAny_field (x := _) he hd h1 ?_)
    rw [if_neg (by decide)]
    exact entry_fly hfr hf hk hl hn he hdc hd (Array.getElem?_eq_some_iff.mp h1).1 q
  · have sz : 3 < ts.size := (Array.getElem?_eq_some_iff.mp h3).1
    obtain ⟨k2, u2, l2, _, e2⟩ := set_entry (fl := Value.none) (fl2 := Value.none) he hc hdc hd h1 hnT hTe hT hdT sz hk hl
    unfold noteFrame
    rw [hf]
    dsimp only
    refine wpAny_bind (wpAny_field (x := _) he hd h1 ?_)
    rw [if_pos (by simp)]
    refine wpAny_bind (wpAny_field (x := _) hT hdT h3 ?_)
    rw [if_neg (by simp [rawInt])]
    refine wpAny_bind (wpAny_setField hT hdT sz ?_)
    subst hc
    exact entry_fly hfr hf k2 l2 hn e2 hdc hd (Array.getElem?_eq_some_iff.mp h1).1 fun h' y1 y2 y3 y4 => q h' y1 (u2.trans y2) y3 y4
  · cases hL.symm.trans hf
    obtain ⟨oe, vs, T, oT, ts, he, hc, hdc, hd, h1, hnT, hTe, hT, hdT, h3⟩ := id ht
    unfold noteFrame
    rw [hf]
    dsimp only
    refine wpAny_bind (wpAny_field (x := _) he hd h1 ?_)
    rw [if_pos (by simp)]
    refine wpAny_bind (wpAny_field (x := _) hT hdT h3 ?_)
    rw [if_pos (by simp)]
    exact wpAny_pure (q s.heap hk (Heap.UpToSlots.refl _) hl ht)
theorem mark_fly {fl : Value} {fo : Option Addr} (hk : B.StaysIn s.heap) (hl : s.heap.FunFrames B (env :: outer)) (ht : TrD s.heap B a cls fl)
    (q : ∀ h', B.StaysIn h' → s.heap.UpToSlots h' → h'.FunFrames B (env :: outer) → TrD h' B a cls (fo.elim Value.none fun f => rawInt f) → Q () { s with heap := h' }) : wpAny M A (setFlight (.ref a) fo) Q Ex s := by
  obtain ⟨oe, vs, T, oT, ts, he, hc, hdc, hd, h1, hnT, hTe, hT, hdT, h3⟩ := ht
  have sz : 3 < ts.size := (Array.getElem?_eq_some_iff.mp h3).1
  obtain ⟨k2, u2, l2, t2, e2⟩ := set_entry (fl := fl) (fl2 := fo.elim Value.none fun f => rawInt f) he hc hdc hd h1 hnT hTe hT hdT sz hk hl
  unfold setFlight
  refine wpAny_bind (wpAny_field (x := _) he hd h1 ?_)
  rw [if_pos (by simp)]
  exact wpAny_setField hT hdT sz (q _ k2 u2 l2 t2)
end
section
variable {X : Cx} {E : XK}
theorem pass_own : PassesOwn (model X.prog X.w) X.A X.env (WX X E) := by
  rintro e s' ⟨⟨hst, hf, ff⟩, a, cls, H', B, rfl, x, y, q⟩
  refine note_fly hst hf x.stays y fun h1 k1 u1 l1 t1 => ?_
  obtain ⟨oe, vs, T, oT, ts, he, hc, hdc, hd, h1', hnT, hTe, hT, hdT, h3⟩ := id t1
  unfold cameBackBy
  rw [hf]
  refine wpAny_bind (wpAny_field he hd h1' ?_)
  dsimp only
  rw [if_neg (by simp)]
  refine mark_fly (outer := X.outer) (env := X.env) k1 l1 t1 fun h2 k2 u2 l2 t2 => ?_
  exact ⟨⟨hst, hf, ff⟩, a, cls, H', B, rfl, (x.step ff k1 u1).step ff k2 u2, ⟨y.1, l2, .inr (.inr ⟨_, hf, t2⟩)⟩, q⟩
theorem wx_leaves {P : Program} {w : World} {A : Around} {env : Env} {outer : List Env} {H : Hp} {s s' : Shared} {base : Heap} {L : Addr} {e : Value} {Ex : Value → Shared → Prop} (hst : A.frames = some (env :: outer)) (hf : env.frame = some L) (ff : s.heap.FunFrames base outer)
    (h : ∃ a cls H' B, e = Value.ref a ∧ XL P w outer H s H' B s' ∧ FlyS B env outer a cls s'.heap ∧ E cls none H') : wpAny (model P w) A (leaving env e) (fun _ s'' => CXE P w outer H s E e s'') Ex s' := by
  obtain ⟨a, cls, H', B, rfl, x, y, q⟩ := h
  unfold leaving
  refine wpAny_bind (note_fly hst hf x.stays y fun h1 k1 u1 l1 t1 => ?_)
  refine mark_fly k1 l1 t1 fun h2 k2 u2 l2 t2 => ?_
  exact ⟨a, cls, H', B, rfl, (x.step ff k1 u1).step ff k2 u2, y.1, l2.2.2, t2, q⟩
theorem raise_wx {pins : List (Addr × Obj)} {σ : St} {H : Hp} {s : Shared} {h' : Heap} {e : Addr} {cls : Value} {args : List Value} (hs : X.stack = X.env :: X.outer) (hf : X.env.frame = some X.env.locals) (hex : X.ex = []) (I : Inv X pins σ H s) (hx : Heap.MadeExcOf s.heap h' e cls args) (q : E cls none H) : WX X E (.ref e) { s with heap := h' } := by
  have nex : ∀ b, b ∉ X.ex := fun b hb => by rw [hex] at hb; cases hb
  have nst : ∀ b o, X.s₀.heap.get? b = some o → b ∉ X.fs → b ∉ frs X.stack := fun b o e nb hb => by
    rcases List.mem_cons.mp (I.stkSub b hb) with z | z
    · subst z; exact absurd (Nat.lt_of_lt_of_le (Heap.lt_size e) I.ok.above) (Nat.lt_irrefl _)
    · exact nb z
  obtain ⟨t, he, hnt, ht⟩ := hx.there
  have hin : ∀ env ∈ X.stack, ∀ b, env.frame = some b → b ∈ frs X.stack := fun env hm b hb => List.mem_filterMap.mpr ⟨env, hm, hb⟩
  have fr := (PySem.W.funFrames_hide I.stack hin).of_keeps (h' := h') fun b o e _ => ⟨o, hx.keeps b o e, rfl⟩
  rw [hs] at fr
  refine ⟨⟨by rw [← hs]; exact I.ok.frames, hf, I.ok.funs⟩, e, cls, H, PySem.W.hideAll s.heap (frs X.stack), rfl,
    { os := I.os
      bare := I.bare
      keepB := fun b o e n hb => PySem.W.hideAll_get _ (I.base.keep b o e n hb (nex b)) (nst b o e hb)
      allB := fun b o e hb => by
        obtain ⟨o1, e1⟩ := I.base.there b o e (nex b)
        exact ⟨o1, PySem.W.hideAll_get _ e1 (nst b o e hb)⟩
      trkB := fun b u hu => by
        obtain ⟨o1, e1⟩ := (I.hok b u hu).has
        exact ⟨o1, PySem.W.hideAll_get _ e1 fun hb => by rw [I.stkFree b hb] at hu; cases hu⟩
      frm := fun b o e hb => by
        obtain ⟨sl, e1⟩ := I.base.slot b o e (I.ok.frf b hb) hb (nex b)
        exact ⟨sl, hx.keeps _ _ e1⟩
      free := fun b o e n => I.base.free b o e n (nex b)
      tups := I.base.tups
      frzs := I.base.frzs
      tbls := I.base.tbls
      hok := I.hok.kept hx.keeps
      stays := fun b o e => hx.keeps _ _ (PySem.W.of_hideAll _ e) }, ⟨?_, by rw [← hs]; rw [hs]; exact fr, .inl ⟨_, _, he, rfl, rfl, rfl, rfl⟩⟩, q⟩
  cases z : (PySem.W.hideAll s.heap (frs X.stack)).get? e with
  | none => rfl
  | some o => have := PySem.W.of_hideAll _ z; rw [hx.new] at this; cases this
end
end L2
set_option Elab.async false
set_option linter.all false
set_option maxRecDepth 100000
set_option maxHeartbeats 400000
namespace L2
open PySem PySem.Spec PyProof.Rows
abbrev veB : List Value := [.type "ValueError", .type "Exception", .type "BaseException", .type "object"]
def xclsB (K : PySem.W.Frag) (C : Addr) : Bool :=
  PySem.W.excIn K C veB "ValueError.__new__" && (PySem.W.findIn K (.ref C) "__getattribute__" == some (some (.builtin "BaseException.__getattribute__"))) && (PySem.W.findIn K (.ref C) "__getattr__" == some none) &&
  (PySem.W.findIn K (.ref C) "__class__" == some (some (.builtin "object.__class__"))) && (PySem.W.mroIn K C (.type "object") == some true) && (PySem.W.mroIn K C (.type "BaseException") == some true) && (PySem.W.clsIn K C).isSome &&
  (PySem.W.specialIn K (.builtin "object.__class__") "__get__" == some (some (.builtin "getset_descriptor.__get__"))) && (PySem.W.takesIn K (.builtin "object.__class__") == some true)
structure XCls (K : PySem.W.Frag) (C : Addr) : Prop where
  exc : PySem.W.excIn K C veB "ValueError.__new__" = true
  ga : PySem.W.findIn K (.ref C) "__getattribute__" = some (some (.builtin "BaseException.__getattribute__"))
  gn : PySem.W.findIn K (.ref C) "__getattr__" = some none
  cl : PySem.W.findIn K (.ref C) "__class__" = some (some (.builtin "object.__class__"))
  ob : PySem.W.mroIn K C (.type "object") = some true
  bx : PySem.W.mroIn K C (.type "BaseException") = some true
  ic : (PySem.W.clsIn K C).isSome = true
  sp : PySem.W.specialIn K (.builtin "object.__class__") "__get__" = some (some (.builtin "getset_descriptor.__get__"))
  tk : PySem.W.takesIn K (.builtin "object.__class__") = some true
theorem XCls.of {K : PySem.W.Frag} {C : Addr} (h : xclsB K C = true) : XCls K C := by
  simp only [xclsB, Bool.and_eq_true, beq_iff_eq] at h
  obtain ⟨⟨⟨⟨⟨⟨⟨⟨h1, h2⟩, h3⟩, h4⟩, h5⟩, h6⟩, h7⟩, h8⟩, h9⟩ := h
  exact ⟨h1, h2, h3, h4, h5, h6, h7, h8, h9⟩
theorem XCls.find {K : PySem.W.Frag} {C : Addr} (c : XCls K C) : PySem.W.findObj K C none "__class__" = some (.bind (.builtin "getset_descriptor.__get__") (.builtin "object.__class__")) := by
  obtain ⟨cd, e⟩ := Option.isSome_iff_exists.mp c.ic
  unfold PySem.W.findObj
  rw [e, Option.bind_some, c.cl, Option.bind_some]
  simp [c.sp, c.tk]
section
open PySem.W
variable {prog : Program} {w : World} {A : Around} {E : Value → Shared → Prop} {s : Shared} {K : PySem.W.Frag} {x C : Addr} {ox : Obj} {Q : Option Value → Shared → Prop}
theorem exc_class (X : K.In s.heap) (I : PySem.W.InstAt s.heap x ox C none) (c : XCls K C) (h : Q (some (.ref C)) { s with toks := s.toks + 1 }) : wpAny (model prog w) A (getAttr? (.ref x) "__class__") Q E s := by
  obtain ⟨hh, g, d, t, os⟩ := s
  have M0 := I.type (M := model prog w)
  have M1 := looks_findIn (M := model prog w) X c.ga
  have M2 := looks_findIn (M := model prog w) X c.gn
  have M3 := looks_find (M := model prog w) X I c.find
  have M4 := looks_mroIn (M := model prog w) X c.bx
  have ne : (Value.builtin "BaseException.__getattribute__" == Value.builtin "object.__getattribute__") = false := by decide +kernel
  unfold getAttr? getAttrBy? getAttrBy
  refine wpAny_bind (wpAny_mkText (wpAny_bind (wpAny_attempt (wpAny_holding (wpAny_bind (M0.at (wpAny_bind (M1.at ?_))))))))
  dsimp only
  rw [if_neg (by rw [ne, Bool.and_false]; exact Bool.false_ne_true)]
  unfold getAttrByItsOwn hookBefore
  refine wpAny_bind (M2.at (wpAny_bind (wpAny_attempt (wpAny_holding ?_))))
  unfold callGetattribute
  rw [if_neg (by simp [onTheHeap])]
  unfold boundAndCalled
  refine wpAny_bind (wpAny_of_eq (PySem.F.excAttr_ValueError.ga.bind (.ref x)) ?_)
  refine wpAny_call (codeAny_call_builtin PySem.F.excAttr_ValueError.ga.plain PySem.F.entry_bexc_ga ?_)
  have kd : builtinKind "BaseException.__getattribute__" = some .slot := by decide +kernel
  have sp : splitId "BaseException.__getattribute__" = some ("BaseException", "__getattribute__") := by decide +kernel
  have ao := PySem.F.args_bexc_ga (.ref x) (.str "__class__" t)
  have LI : Looks (model prog w) hh (isInstance (.ref x) (.type "BaseException")) true := M0.andThen M4
  simp only [checkBuiltinCall, kd, sp]
  refine wpAny_bind (LI.at ?_)
  rw [if_neg (by decide)]
  refine wpAny_of_eq (a := ()) ao ?_
  unfold Builtin.«object.__getattribute__»
  repeat (first | refine wpAny_bind (M0.at ?_) | refine wpAny_bind (M3.at ?_) | wp_step)
  refine class_get (ox := ox) (od := none) X I c.ob ?_
  exact wpAny_pure (wpAny_pure (wpAny_pure h))
theorem kitx_exc (c : XCls K C) : KitX K (.ref x) (.ref C) (fun h => ∃ ox, PySem.W.InstAt h x ox C none) where
  ty := fun _ _ _ ⟨_, I⟩ => I.type
  it := fun _ _ X _ => by
    have q := c.ic
    unfold clsIn at q
    split at q
    · rename_i lk
      intro A' Q' E' s' kp qq
      unfold isType loadHead
      exact wpAny_bind (wpAny_loadPart (kp _ _ (X _ _ lk)) (wpAny_pure qq))
    · cases q
  ne := fun h tp dd its n sl X ht => by
    have q := c.ic
    unfold clsIn at q
    split at q
    · rename_i lk
      refine Bool.eq_false_iff.mpr fun z => ?_
      obtain rfl : C = tp := Value.ref.inj (beq_iff_eq.mp z)
      cases (X _ _ lk).symm.trans ht
    · cases q
  ca := fun X ⟨_, I⟩ k => exc_class X I c k
end
def excO (x C : Addr) : HO := .ext fun h => ∃ ox, PySem.W.InstAt h x ox C none
def vv : V → Value
  | .ref a => .ref a
  | .ty n => .type n
  | _ => .none
def isCls : V → Bool
  | .ref _ => true
  | .ty _ => true
  | _ => false
theorem vv_of {x : V} {u : Value} (h : isCls x = true) (r : RelV x u) : u = vv x := by
  cases x <;> first | exact r | cases h
theorem vv_all : ∀ {xs : List V} {us : List Value}, xs.all isCls = true → Vals xs us → us = xs.map vv
  | [], _, _, .nil => rfl
  | x :: xs, _, h, .cons r t => by
    rw [List.all_cons, Bool.and_eq_true] at h
    rw [List.map_cons, vv_of h.1 r, vv_all h.2 t]
section
variable {X : Cx} {K : PySem.W.Frag}
theorem Inv.excAt {pins : List (Addr × Obj)} {σ : St} {H : Hp} {s : Shared} {a C : Addr} (I : Inv X pins σ H s) (h : H a = some (excO a C)) : ∃ ox, PySem.W.InstAt s.heap a ox C none := (I.hok a _ h).1
theorem call_isX (hK : X.K = K) : CallR X (.builtin "isinstance") (fun xs H Q => ∃ a C c b, xs = [.ref a, c] ∧ H a = some (excO a C) ∧ XCls K C ∧ isCls c = true ∧ PySem.W.kitOne K (.ref C) (vv c) = some b ∧ Q (.bl b) H) := by
  subst hK
  intro pins s σ H xs us Q I r h
  obtain ⟨a, C, c, b, rfl, ha, xc, hc, hk, q⟩ := h
  obtain ⟨u, w', rfl, r1, r2⟩ := vals2 r
  cases r1
  cases vv_of hc r2
  exact PySem.W.kia_one (kitx_exc xc) I.kIn (I.excAt ha) hk (by intro z; cases z) fun tk => ⟨.bl _, H, I.tok tk, rfl, q⟩
theorem call_isXT (hK : X.K = K) : CallR X (.builtin "isinstance") (fun xs H Q => ∃ a C tp cs b, xs = [.ref a, .ref tp] ∧ H a = some (excO a C) ∧ XCls K C ∧ SqT K H tp cs ∧ cs.all isCls = true ∧ PySem.W.kitAny K (.ref C) (cs.map vv) = some b ∧ Q (.bl b) H) := by
  subst hK
  intro pins s σ H xs us Q I r h
  obtain ⟨a, C, tp, cs, b, rfl, ha, xc, ht, hc, hk, q⟩ := h
  obtain ⟨u, w', rfl, r1, r2⟩ := vals2 r
  cases r1; cases r2
  obtain ⟨its, rv, ⟨o, ho, hoc, n, hod⟩, _⟩ := I.tuple ht
  cases vv_all hc rv
  obtain ⟨ocl, odc, odt, osl⟩ := o
  cases hoc; cases hod
  exact PySem.W.kia_tup (kitx_exc xc) I.kIn (I.excAt ha) ho hk (by intro z; cases z) fun tk => ⟨.bl _, H, I.tok tk, rfl, q⟩
end
theorem exc_of {K : PySem.W.Frag} {h : Heap} {C : Addr} {bmB : List Value} {ni : String} (X : K.In h) (q : PySem.W.excIn K C bmB ni = true) : ∃ bm N nm qn bs hd sn sub ab col dd k0 k1 k2 k3 k5 mN,
    h.get? C = some (excClassObj nm qn C N bs bm hd sn sub ab col dd k0 k1 k2 k3 k5 ni) ∧ h.Ns N mN ∧ mN "__init__" = none ∧ OwnTail h bmB bm := by
  simp only [PySem.W.excIn] at q
  split at q
  case h_2 => cases q
  case h_1 d0 c0 z0 lk =>
    split at q
    case h_2 => cases q
    case h_1 C0 bm p0 p1 p2 p3 n0 p5 em es =>
      simp only [Bool.and_eq_true, beq_iff_eq, Bool.not_eq_true'] at q
      obtain ⟨⟨⟨⟨⟨e1, e2⟩, e3⟩, e4⟩, e5⟩, e6⟩ := q
      subst e1 e2
      have ez : z0 = #[p0, p1, p2, p3, some (.builtin n0), p5] := by rw [← es]
      have kC := X _ _ lk
      rw [ez] at kC
      rcases c0 with ⟨nm, bs, mro, ns, qn, hd, sn, sub, ab, col, del⟩
      have em' : mro = .ref C0 :: bm := em
      have e3' : del = false := e3
      subst em' e3'
      exact ⟨bm, ns, nm, qn, bs, hd, sn, sub, ab, col, d0, p0, p1, p2, p3, p5, _, kC, .of_isNs (PySem.W.isNs_of_in X e5), PySem.W.nsMap_none_of_in X e5 e6, PySem.W.tail_of_in X e4⟩
section
variable {X : Cx} {E : XK}
theorem PS.nox {st : Stmt} {t : TS} (h : PS X.nox st t) : PS X st t := fun pins s σ H D I hw =>
  wpAny_mono (h pins s σ H D (I.wish _) hw) (fun _ _ q => q.unwish) fun _ _ z => False.elim z
def tRaise (E : XK) (C : Addr) : TS := fun _ _ H => E (.ref C) none H
theorem ps_raise {x : Str} {C : Addr} {np cpos pos p1 : Pos} {t : Str} {j} (hs : X.stack = X.env :: X.outer) (hf : X.env.frame = some X.env.locals) (hex : X.ex = []) (hc : X.calm = true) (hg : Gl X x) (hm : X.mg x = some (.ref C)) (xc : XCls X.K C) (hdb : (x == ("__debug__" : Str)) = false := by decide)
    (he : starEach [Expr.Constant (.str t) j p1] X.env = [(false, eval (.Constant (.str t) j p1) X.env)] := by rfl) :
    PS (X.exc E) (.Raise (some (.Call (.Name x np) [.Constant (.str t) j p1] [] cpos)) none pos) (tRaise E C) := by
  intro pins s σ H D I0 h
  have I := I0.unwish
  obtain ⟨bm, N, nm, qn, bs, hd, sn, sub, ab, col, dd, k0, k1, k2, k3, k5, mN, kC, kN, kn, kt⟩ := exc_of I.kIn xc.exc
  refine wpAny_Raise_call_subT (env := X.env) (C := C) (nm := nm) (q := qn) (N := N) (bs := bs) (bm := bm) (hdct := hd) (sn := sn) (sub := sub) (ab := ab) (col := col) (dd := dd) (k0 := k0) (k1 := k1) (k2 := k2) (k3 := k3) (k5 := k5)
    PySem.F.excBase_ValueError (mN := mN) (kt.hasType PySem.F.excBase_ValueError.hasBase) (I.ok.hd hc) (by rw [he]; rfl) kn (ld_glob I0 hg hm ⟨rfl, ?_⟩ hdb)
  rw [he]
  refine Calls.evalArgs_plain (Calls.spliced_cons (Calls.Constant_str (pos := p1) (k := j) (Calls.spliced_nil ?_)))
  refine ⟨rfl, by show 1 ≤ sizeLine; decide, kC, kN, kt, fun h' e me => ?_⟩
  exact raise_wx (s := { s with toks := s.toks + 1 }) hs hf hex (I.tok _) me h
end
section
variable {P : Program} {w : World} {K : PySem.W.Frag} {mg : Str → Option Value} {base : Heap}
end
end L2
set_option Elab.async false
set_option linter.all false
set_option maxRecDepth 100000
set_option maxHeartbeats 400000
namespace L2
open PySem PySem.Spec PyProof.Rows
section
variable {X : Cx} {pins : List (Addr × Obj)} {σ : St} {H : Hp} {s : Shared}
theorem gone_ok {M : Model} {A : Around} {Ex : Value → Shared → Prop} {i : Nat} {x : Str} {pos : Pos} {Q : Unit → Shared → Prop} (I : Inv X pins σ H s) (hN : X.N.Nodup) (hi : X.N[i]? = some x) (hk : X.env.kindOf x = some .local)
    (h : ∀ s', Inv X pins (σ.set i none) H s' → Q () s') : wpAny M A (do bindName X.env x .none; unbindBehindTheSuite X.env x pos) Q Ex s := by
  obtain ⟨m, hn, hl⟩ := id I.loc
  have hcls : (X.env.scope.kind == .class || (X.env.scope.kind == .module && X.env.locals != X.env.globals)) = false := by rw [I.ok.kind]; rfl
  have cne := I.cne
  refine wpAny_nameGoes_keeps hk hn hcls fun h' v hn' hs => ?_
  obtain ⟨oL, _, _, hoL, _⟩ := id hn
  have far : ∀ b o, X.s₀.heap.get? b = some o → b ≠ X.env.locals := fun b o e => Nat.ne_of_lt (Nat.lt_of_lt_of_le (Heap.lt_size e) I.ok.above)
  refine h _ ⟨I.ok, I.os, I.bare, ⟨fun b o e n hb hx => ?_, fun b o e n hb hx => ?_, I.base.free, fun b o e hx => ?_, I.base.tups, I.base.frzs, I.base.tbls⟩, ⟨_, hn', fun j y v' e1 e2 e3 => ?_⟩, fun y c e => ?_, I.free, I.freeC, fun p hp => ?_, fun b ob e => ?_, by simpa using I.len⟩
  · exact (hs.2 b (far b o e)).trans (I.base.keep b o e n hb hx)
  · obtain ⟨sl, e1⟩ := I.base.slot b o e n hb hx
    exact ⟨sl, (hs.2 b (far b o e)).trans e1⟩
  · obtain ⟨o', e1⟩ := I.base.there b o e hx
    exact ⟨o', (hs.2 b (far b o e)).trans e1⟩
  · by_cases hj : j = i
    · subst hj
      have hj' : j < σ.length := by
        by_cases z : j < σ.length
        · exact z
        · rw [List.getElem?_eq_none (by rw [List.length_set]; omega)] at e2; cases e2
      rw [List.getElem?_set_self hj'] at e2; cases e2
    · rw [List.getElem?_set_ne (Ne.symm hj)] at e2
      obtain ⟨u', r', q⟩ := hl j y v' e1 e2 e3
      refine ⟨u', r', ?_⟩
      rcases q with ⟨k, e⟩ | ⟨k, c, e, z⟩
      · refine .inl ⟨k, ?_⟩
        have : y ≠ x := fun e => hj (nodup_ix hN e1 (e ▸ hi))
        simp [this, e]
      · exact .inr ⟨k, c, e, z.sameBut hs (cne y c e)⟩
  · obtain ⟨w', z⟩ := I.cell y c e
    exact ⟨w', z.sameBut hs (cne y c e)⟩
  · obtain ⟨e, n, ne, nf, d⟩ := I.pin p hp
    exact ⟨(hs.2 p.1 ne).trans e, n, ne, nf, d⟩
  · have hfree := I.free
    refine (I.hok b ob e).stay (fun c w' hc q => (hs.2 c ?_).trans q) (fun _ q => q) fun _ _ q => q
    rintro rfl
    rcases hc with rfl | hc
    · rw [hfree] at e; cases e
    · rw [hfree] at hc; cases hc
end
def Cx.hand (X : Cx) (e : Addr) : Cx := { X with A := X.A.mark (some (.ref e)), calm := false, xe := fun _ _ => False }
section
variable {X : Cx} {pins : List (Addr × Obj)} {σ : St} {H : Hp} {s : Shared} {e : Addr}
theorem Inv.hand (I : Inv X pins σ H s) (e : Addr) : Inv (X.hand e) pins σ H s :=
  ⟨⟨I.ok.mod, I.ok.kind, I.ok.glob, I.ok.blt, I.ok.above, I.ok.inj, I.ok.has, I.ok.cab, (fun z => by cases z), I.ok.frames, I.ok.stk, I.ok.exf, I.ok.bs, I.ok.bsz, I.ok.noex, I.ok.exfs, I.ok.funs, I.ok.frf⟩, I.os, I.bare, I.base, I.loc, I.cell, I.free, I.freeC, I.pin, I.hok, I.len⟩
theorem Inv.unhand (ok : X.Ok) (I : Inv (X.hand e) pins σ H s) : Inv X pins σ H s := ⟨ok, I.os, I.bare, I.base, I.loc, I.cell, I.free, I.freeC, I.pin, I.hok, I.len⟩
end
def PSx (X : Cx) (st : List Stmt) (t : XK → TS) : Prop := ∀ (pins : List (Addr × Obj)) (s : Shared) (σ : St) (H : Hp) (D : Ends) (Eh : XK) (Z : Value → Shared → Prop), Inv X pins σ H s → t Eh D σ H →
  (∀ H1 s1 e s', Inv X pins σ H1 s1 → CXE X.prog X.w X.stack H1 s1 Eh e s' → Z e s') → wpAny (model X.prog X.w) X.A (execs st X.env) (SP X pins D) Z s
section
variable {X : Cx} {k : Nat} {f : Addr} {fd : FuncData} {ps : List Str} {sp : Sp} {dvs : List V} {ds : List Value} {x : Str} {p pos cpos : Pos} {e : Expr} {es : List Expr} {t : TA}
theorem run_fnX {pins : List (Addr × Obj)} {σ : St} {H : Hp} {s : Shared} {Q : VK} {us : List Value} {vs : List V} {Eh : XK} {Z : Value → Shared → Prop} (F : FnOk X.prog X.w X.K X.mg X.base (CXE X.prog X.w) k f fd ps sp) (hr : Room k X.A) (hb : Binds X.K fd ps ds) (hd : Vals dvs ds)
    (hx : ∀ e s', CXE X.prog X.w X.stack H s Eh e s' → Z e s') (I : Inv X pins σ H s) (r : Vals vs us) (h : sp (vs ++ dvs) H Q Eh) : wpAny (model X.prog X.w) X.A (call (.ref f) us) (EP X pins σ Q) Z s := by
  have r2 : Vals (vs ++ dvs) (us ++ ds) := r.append hd
  have hl : (us ++ ds).length = ps.length := by rw [← r2.length]; exact F.len _ _ _ _ h
  refine wpAny_call (codeAny_mono (F.run X.A X.stack s H ⟨us, []⟩ (us ++ ds) (vs ++ dvs) Q Eh hr I.env0 (hb s us I.kIn hl) r2 h) fun r s' hq => ?_)
  cases r with
  | error e => exact hx e s' hq
  | ok fl =>
    cases fl with
    | ret u => exact I.after hq
    | next => exact False.elim hq
    | brk => exact False.elim hq
    | cont => exact False.elim hq
theorem callX {pins : List (Addr × Obj)} {σ : St} {H : Hp} {s : Shared} {Q : VK} {Eh : XK} {Z : Value → Shared → Prop} (F : FnOk X.prog X.w X.K X.mg X.base (CXE X.prog X.w) k f fd ps sp) (hr : Room k X.A) (hg : Gl X x) (hm : X.mg x = some (.ref f)) (hk : PySem.W.keepIn X.K (.ref f) = true) (hb : Binds X.K fd ps ds) (hd : Vals dvs ds)
    (ha : PA X.nox (e :: es) t) (I : Inv X pins σ H s) (h : tCall sp dvs Eh t σ H Q) (hx : ∀ H1 s1 e s', Inv X pins σ H1 s1 → CXE X.prog X.w X.stack H1 s1 Eh e s' → Z e s') (hdb : (x == ("__debug__" : Str)) = false)
    (he : starEach (e :: es) X.env = (false, eval e X.env) :: starEach es X.env) (hpl : (backTo cpos (starEach es X.env)).any (·.1) = false) :
    wpAny (model X.prog X.w) X.A (eval (.Call (.Name x p) (e :: es) [] cpos) X.env) (EP X pins σ Q) Z s := by
  refine wpAny_Call_Name_kw (ld_glob I hg hm ?_ hdb)
  refine PySem.W.callWith_K (h₀ := X.base) I.ok.mod.kin hk (wpAny_mono (ha cpos pins s σ H _ (I.wish _) h) (fun us s1 ⟨vs, H1, I1, r, q⟩ => ⟨I1.unwish.kIn, ?_⟩) fun _ _ z => z.elim) he hpl
  exact run_fnX F hr hb hd (fun e s' z => hx H1 s1 e s' I1.unwish z) I1.unwish r q
theorem psx_call (F : FnOk X.prog X.w X.K X.mg X.base (CXE X.prog X.w) k f fd ps sp) (hr : Room k X.A) (hg : Gl X x) (hm : X.mg x = some (.ref f)) (hk : PySem.W.keepIn X.K (.ref f) = true) (hb : Binds X.K fd ps ds) (hd : Vals dvs ds)
    (ha : PA X.nox (e :: es) t) (hdb : (x == ("__debug__" : Str)) = false := by decide) (he : starEach (e :: es) X.env = (false, eval e X.env) :: starEach es X.env := by rfl) (hpl : (backTo cpos (starEach es X.env)).any (·.1) = false := by rfl)
    (hs : swapsWith (.Call (.Name x p) (e :: es) [] cpos) none pos.line X.env = pure false := by rfl) :
    PSx X [.Expr (.Call (.Name x p) (e :: es) [] cpos) pos] (fun Eh => tDrop (tCall sp dvs Eh t)) := by
  intro pins s σ H D Eh Z I h hx
  refine wpAny_execs_cons (wpAny_Expr_any (thn (callX F hr hg hm hk hb hd ha I h hx hdb he hpl) fun v s1 ⟨y, H1, I1, r1, q1⟩ => ?_) I.quiet hs)
  exact wpAny_execs_nil ⟨σ, H1, I1, q1⟩
end
def tTry (K : PySem.W.Frag) (cy : Value) (i : Nat) (tb : XK → TS) (th : TS) : TS := fun D σ H =>
  tb (fun cls _ H' => PySem.W.exmOne K cls cy = some true ∧ ∃ C, cls = Value.ref C ∧ ∀ x, H' x = none →
    th { nx := fun σ' H2 => D.nx (σ'.set i none) H2, rt := D.rt, bk := fun σ' H2 => D.bk (σ'.set i none) H2, ct := fun σ' H2 => D.ct (σ'.set i none) H2 } (σ.set i (some (.ref x))) (upd H' x (excO x C))) D σ H
section
variable {X : Cx} {K : PySem.W.Frag}
theorem ps_tryAs {body : List Stmt} {tb : XK → TS} {b₀ : Stmt} {suite : List Stmt} {y n : Str} {np hpos pos : Pos} {th : TS} {i : Nat} {cy : Value} (hK : X.K = K) (hb : PSx X body tb) (hs : X.stack = X.env :: X.outer) (hf : X.env.frame = some X.env.locals)
    (hg : Gl X y) (hm : X.mg y = some cy) (hN : X.N.Nodup) (hi : X.N[i]? = some n) (hl : X.env.kindOf n = some .local) (hh : ∀ e, PSs (X.hand e) (b₀ :: suite) th) (hdb : (y == ("__debug__" : Str)) = false := by decide) :
    PS X (.Try body [.ExceptHandler (some (.Name y np)) (some n) (b₀ :: suite) hpos] [] [] pos) (tTry K cy i tb th) := by
  subst hK
  intro pins s σ H D I h
  refine wpAny_Try_except (thn (hb pins s σ H D _ _ I h ?_) fun f s1 q => ?_)
  · intro H1 s1 e s' I1 ⟨a, cls, H', B, ee, x, nb, ff, ht, em, C, ec, q⟩
    subst ee ec
    have fr : X.A.frames = some (X.env :: X.outer) := by rw [← hs]; exact I1.ok.frames
    have ff1 := I1.stack
    rw [hs] at ff
    refine note_fly (cls := .ref C) fr hf x.stays ⟨nb, ff, .inr (.inl ht)⟩ fun h2 k2 u2 l2 t2 => ?_
    refine mark_fly (fo := none) k2 l2 t2 fun h3 k3 u3 l3 t3 => ?_
    have x3 := (x.step ff1 k2 u2).step ff1 k3 u3
    have J3 : Inv X pins σ H' { s' with heap := h3 } := I1.call' (ch := []) x3.os x3.un x3.hok x3.bare (fun b z => absurd z (by simp))
    obtain ⟨oe, vs, T, oT, ts, he, hc, _⟩ := id t3
    refine wpAny_handleBy_cons (codeAny_handlers_test (ld_glob (X := X.hand a) (J3.hand a) hg hm ?_ hdb)) (by intro z; cases z)
    have LT : PySem.W.Looks (model X.prog X.w) h3 (typeOf (.ref a)) (.ref C) := hc ▸ (PySem.W.Looks.ld he).andThen .now
    refine (PySem.W.exm_one J3.kIn LT em).here ?_
    refine codeAny_handlers_suite_as (mark_fly (fo := none) k3 l3 t3 fun h4 k4 u4 l4 t4 => ?_)
    have x4 := x3.step ff1 k4 u4
    obtain ⟨oe4, vs4, T4, oT4, ts4, he4, hc4, hdc4, hd4, _⟩ := id t4
    have na : H' a = none := by
      cases z : H' a with
      | none => rfl
      | some u => obtain ⟨o, eo⟩ := x4.trkB a u z; rw [nb] at eo; cases eo
    have nfr : a ∉ frs X.stack := fun hm => by
      rw [hs] at hm
      obtain ⟨_, o, eo, nf⟩ := l4.mem hm
      rw [he4] at eo; cases eo; exact nf _ hd4
    have un4 : Un (frs X.stack) [] H1 (upd H' a (excO a C)) s1.heap h4 :=
      { keep := x4.un.keep
        slot := x4.un.slot
        free := fun b o e n hx => by
          have nea : b ≠ a := fun z => by
            subst z
            obtain ⟨o', eo⟩ := x4.allB b o e nfr
            rw [nb] at eo; cases eo
          rw [upd_ne nea]; exact x4.un.free b o e n hx
        there := x4.un.there
        tups := fun b xs e => by have e2 := x4.tups b xs e; rw [upd_ne (ne_of_none e2 na)]; exact e2
        frzs := fun b o u e => by have e2 := x4.frzs b o u e; rw [upd_ne (ne_of_none e2 na)]; exact e2
        tbls := fun b ps e => by obtain ⟨m, e2⟩ := x4.tbls b ps e; exact ⟨m, by rw [upd_ne (ne_of_none e2 na)]; exact e2⟩ }
    have hok4 : HOk X.prog X.w (upd H' a (excO a C)) h4 := fun b u e => by
      by_cases z : b = a
      · subst z
        rw [upd_same] at e; cases e
        have mk : ∀ h : Heap, h.get? b = some oe4 → ∃ ox, PySem.W.InstAt h b ox C none := fun h eh => by
          obtain ⟨c0, d0, dt0, sl0⟩ := oe4
          cases hdc4; cases hd4
          exact ⟨_, eh, hc4, rfl, trivial⟩
        refine ⟨mk h4 he4, ⟨_, he4⟩, fun g1 g2 ⟨ox, i1⟩ kk => ⟨ox, kk _ i1.at_, i1.cls, i1.no, ?_⟩⟩
        have := i1.dict
        cases zz : ox.dict with
        | none => trivial
        | some d0 => rw [zz] at this; exact this.elim
      · rw [upd_ne z] at e
        exact (x4.hok b u e).stay (fun _ _ _ q => q) (fun c q => by rw [upd_ne (ne_of_none q na)]; exact q) fun c xs q => by rw [upd_ne (ne_of_none q na)]; exact q
    have J4 : Inv X pins σ (upd H' a (excO a C)) { s' with heap := h4 } := I1.call' (ch := []) x4.os un4 hok4 x4.bare (fun b z => absurd z (by simp))
    refine store_ok (X := X.hand a) (J4.hand a) hN hi (.inl hl) (v := .ref a) rfl (fun s5 I5 => ?_) (.inr hl)
    refine wpAny_mono (hh a pins s5 _ _ _ I5 (q a na)) (fun f s6 z => ?_) fun _ _ z => z.elim
    cases f with
    | next => obtain ⟨σ', H2, I6, q6⟩ := z; exact gone_ok (I6.unhand I.ok) hN hi hl fun s7 I7 => ⟨_, H2, I7, q6⟩
    | brk => obtain ⟨σ', H2, I6, q6⟩ := z; exact gone_ok (I6.unhand I.ok) hN hi hl fun s7 I7 => ⟨_, H2, I7, q6⟩
    | cont => obtain ⟨σ', H2, I6, q6⟩ := z; exact gone_ok (I6.unhand I.ok) hN hi hl fun s7 I7 => ⟨_, H2, I7, q6⟩
    | ret u => obtain ⟨v, σ', H2, I6, r6, q6⟩ := z; exact gone_ok (I6.unhand I.ok) hN hi hl fun s7 I7 => ⟨v, _, H2, I7, r6, q6⟩
  · cases f with
    | next => exact wpAny_execs_nil q
    | brk => exact q
    | cont => exact q
    | ret u => exact q
end
end L2
namespace L2
open PySem PySem.Spec PyProof.Rows
section
variable {X : Cx} {K : PySem.W.Frag} {e o : Expr} {es : List Expr} {to : TE} {t : TA} {T id : String} {name : Str} {apos cpos : Pos} {r : V → List V → Hp → VK → Prop}
theorem pe_bmK (hK : X.K = K) (pa : PlainAttrs T) (slot : Slot T name id) (hty : typeOf (.builtin id) = pure (.type "method_descriptor")) (hm : MtR X id r) (ho : PE X o to) (ha : PA X (e :: es) t)
    (hbase : attributeBase o name X.env (eval o X.env) = eval o X.env := by rfl)
    (hfew : ((backTo cpos (starEach (e :: es) X.env)).all (fun x => !x.1) && (backToKw cpos (keywordEach [] X.env)).all (fun x => x.1.isSome)
      && decide ((e :: es).length + ([] : List Keyword).length + (if ([] : List Keyword).isEmpty then 0 else 1) < 30)) = true := by rfl)
    (hline : (apos.endLine == cpos.line) = true := by rfl) (hs : starEach (e :: es) X.env = (false, eval e X.env) :: starEach es X.env := by rfl) (hplain : (backTo cpos (starEach es X.env)).any (·.1) = false := by rfl) :
    PE X (.Call (.Attribute o name apos) (e :: es) [] cpos) (tBM K T r to t) := by
  subst hK
  exact pe_bm pa slot hty hm ho ha hbase hfew hline hs hplain
end
end L2
set_option Elab.async false
set_option linter.all false
set_option maxRecDepth 100000
set_option maxHeartbeats 4000000
namespace L2
open PySem PySem.Spec PyProof.Rows
section
variable {X : Cx}
def oV : Option Int → V
  | none => .non
  | some i => .int i
end
end L2
namespace Sm
open PySem L2 SmSort
theorem tyS_tup {H : Hp} {l : Addr} {xs : List V} (h : H l = some (.tup xs)) : tyS H (.ref l) = some "tuple" := by simp only [tyS, h]
theorem tyS_same {H H' : Hp} {x : V} {t : String} (s : Same H H') (h : tyS H x = some t) : tyS H' x = some t := by
  cases x with
  | ref a =>
    unfold tyS at h ⊢
    dsimp only at h ⊢
    cases e : H a with
    | none => rw [e] at h; simp at h
    | some o => rw [e] at h; rw [s a o e]; exact h
  | _ => exact h
end Sm
set_option Elab.async false
set_option linter.all false
set_option maxRecDepth 100000
set_option maxHeartbeats 4000000
namespace Sm
open PySem L2 SmSort
abbrev Fn := Nat → Option Int
def put (f : Fn) (k : Nat) (x : Option Int) : Fn := fun i => if i = k then x else f i
theorem put_same {f : Fn} {k : Nat} {x : Option Int} : put f k x k = x := by unfold put; rw [if_pos rfl]
theorem put_ne {f : Fn} {k i : Nat} {x : Option Int} (h : i ≠ k) : put f k x i = f i := by unfold put; rw [if_neg h]
def lone (k : Nat) (x : Int) : Fn := fun i => if i = k then some x else none
def below (o : Option Int) (t : Int) : Bool := match o with
  | some y => decide (y < t)
  | none => false
theorem below_iff {o : Option Int} {t : Int} : below o t = true ↔ ∃ y, o = some y ∧ y < t := by
  cases o <;> simp [below]
def upto (o : Option Int) (t : Int) : Bool := match o with
  | some y => decide (y ≤ t)
  | none => false
structure W3 where
  g : Nat
  o : Nat
  t : Int
def two (m : M4) : List W3 := [⟨m.lo.toNat, m.hi.toNat, m.t⟩, ⟨m.hi.toNat, m.lo.toNat, m.t⟩]
def ways2 (ms : List M4) : List W3 := ms.flatMap two
def fstep (st : Fn) (x : W3) : Fn := if st x.o = none ∧ below (st x.g) x.t = true then put st x.o (some x.t) else st
def fwd (ms : List M4) (st : Fn) : Fn := (ways2 ms).foldl fstep st
theorem fstep_some {st : Fn} {x : W3} {i : Nat} {y : Int} (h : st i = some y) : fstep st x i = some y := by
  unfold fstep
  split
  · rename_i c
    by_cases e : i = x.o
    · rw [e, c.1] at h; cases h
    · rw [put_ne e]; exact h
  · exact h
def rep (n : Nat) (f : Fn) : List (Option Int) := (List.range n).map f
end Sm
namespace L2
open PySem PySem.Spec PyProof.Rows
section
variable {n : Nat} {caps : List Nat} {g : TG} {tc : TT} {te : TE} {σ : St} {H : Hp} {Qf : Addr → Hp → List V → Prop}
theorem comp_range {lo : Int} {m : Nat} (Pv : Nat → St → List V → Hp → Prop) (h0 : Pv 0 (tau0 n caps σ) [] H) (hn : m ≤ 1000) (hl : ∀ i τ acc H, Pv i τ acc H → acc.length ≤ i)
    (hs : ∀ i τ acc H (C : St → List V → Hp → Prop), i < m → Pv i τ acc H → (∀ τ acc H, Pv (i + 1) τ acc H → C τ acc H) → g (.int (lo + i)) τ H fun τ2 H2 => tc τ2 H2 fun b H3 => if b = true then te τ2 H3 fun y H4 => C τ2 (acc ++ [y]) H4 else C τ2 acc H3)
    (hd : ∀ τ acc H, Pv m τ acc H → ∀ p, H p = none → Qf p H acc) :
    ∃ W : Nat → Nat → St → List V → Hp → Prop, (∃ m, W 0 m (tau0 n caps σ) [] H) ∧ ∀ i m' τ acc H, W i m' τ acc H →
      ((Itr lo m).stop i H ∧ acc.length ≤ sizeLine ∧ ∀ p, H p = none → Qf p H acc) ∨
      ((Itr lo m).go i H ∧ acc.length < sizeLine ∧ ∀ x H', (Itr lo m).yld i H x H' → g x τ H' fun τ2 H2 => tc τ2 H2 fun b H3 => if b = true then te τ2 H3 fun y H4 => ∃ m'', m'' < m' ∧ W (i + 1) m'' τ2 (acc ++ [y]) H4 else ∃ m'', m'' < m' ∧ W (i + 1) m'' τ2 acc H3) :=
  comp_of (J := Itr lo m) Pv m h0 hn hl (fun i τ acc H hi p => hi) (fun τ acc H p => Nat.le_refl _)
    (fun i τ acc H C hi p c x H' y => by obtain ⟨e1, e2⟩ := y; subst e1; subst e2; exact hs i τ acc _ C hi p c) hd
end
end L2
set_option Elab.async false
set_option linter.all false
set_option maxRecDepth 100000
set_option maxHeartbeats 4000000
namespace Sm
open PySem L2 SmSort
def run (ws : List W3) (st : Fn) : Fn := ws.foldl fstep st
theorem run_keep : ∀ {ws : List W3} {st : Fn} {i : Nat} {y : Int}, st i = some y → run ws st i = some y
  | [], _, _, _, h => h
  | w :: ws, st, i, y, h => run_keep (ws := ws) (fstep_some h)
theorem run_from : ∀ {ws : List W3} {st : Fn} {i : Nat} {t : Int}, run ws st i = some t → st i = none → ∃ x ∈ ws, x.o = i ∧ x.t = t ∧ ∃ y, run ws st x.g = some y ∧ y < t
  | [], st, i, t, h, h0 => by
    have : st i = some t := h
    rw [h0] at this; cases this
  | w :: ws, st, i, t, h, h0 => by
    have h' : run ws (fstep st w) i = some t := h
    cases e : fstep st w i with
    | none =>
      obtain ⟨x, hx, a, b, y, hy, lt⟩ := run_from h' e
      exact ⟨x, .tail _ hx, a, b, y, hy, lt⟩
    | some z =>
      have z' := run_keep (ws := ws) e
      rw [h'] at z'; cases z'
      unfold fstep at e
      split at e
      · rename_i c
        by_cases io : i = w.o
        · subst io
          rw [put_same] at e; cases e
          obtain ⟨y, hy, lt⟩ := below_iff.mp c.2
          exact ⟨w, .head _, rfl, rfl, y, run_keep (ws := w :: ws) hy, lt⟩
        · rw [put_ne io, h0] at e; cases e
      · rw [h0] at e; cases e
end Sm
set_option Elab.async false
set_option linter.all false
set_option maxRecDepth 100000
set_option maxHeartbeats 4000000
namespace L2
open PySem PySem.Spec PyProof.Rows
section
variable {X : Cx} {pins : List (Addr × Obj)} {σ : St} {H : Hp} {s : Shared}
theorem Inv.keptAll {m : Str → Option Value} {h' : Heap} {tk : Nat} (I : Inv X pins σ H s) (F0 : Fr X.base X.env.locals s.heap m) (F : Fr X.base X.env.locals h' m)
    (N : News X.base X.env.locals h' (allNews X.base s.heap X.env.locals)) : Inv X pins σ H { s with heap := h', toks := tk } := by
  have keep : ∀ b o, b ≠ X.env.locals → s.heap.get? b = some o → h'.get? b = some o := fun b o hb e => by
    cases q : X.base.get? b with
    | some u =>
      have := I.bk b u q
      rw [e] at this; cases this
      exact F.keep b _ q
    | none => exact (N (b, o) (mem_allNews hb q e)).1
  refine I.step (g' := s.gens) (t' := tk) (d' := s.drawn) (ch := []) (fun _ z => nomatch z) (fun b o hb _ _ e _ => keep b o hb e) (fun b o hb _ _ e _ => ⟨o.slots, keep b o hb e⟩) (fun b o _ e n => n) (fun b o _ e => ?_)
    (fun b ys e => e) (fun b o u e => e) (fun b ps e => ⟨#[], by rw [e, Array.append_empty]⟩) (fun m' hm => ?_) (fun b u e => ?_) I.bare
  · by_cases hb : b = X.env.locals
    · obtain ⟨o', _, _, q, _⟩ := F.ns
      exact ⟨o', by rw [hb]; exact q⟩
    · exact ⟨o, keep b o hb e⟩
  · obtain ⟨o1, es1, ep1, e1, d1, k1, f1⟩ := hm
    obtain ⟨o2, es2, ep2, e2, d2, k2, f2⟩ := F0.ns
    rw [e1] at e2; cases e2
    rw [d1] at d2; cases d2
    obtain ⟨o3, es3, ep3, e3, d3, k3, f3⟩ := F.ns
    exact ⟨o3, es3, ep3, e3, d3, k3, fun name => (f3 name).trans ((f2 name).symm.trans (f1 name))⟩
  · refine (I.hok b u e).stay (fun c v hc q => keep c v (fun z => ?_) q) (fun c q => q) fun c ys q => q
    rcases hc with rfl | hc
    · rw [z, I.free] at e; cases e
    · rw [z, I.free] at hc; cases hc
theorem bools_of : ∀ {bs : List Bool} {us : List Value}, Vals (bs.map V.bl) us → LSm.BoolsAre us bs
  | [], us, r => by cases r; exact .nil
  | b :: bs, us, r => by
    cases r with
    | cons x y =>
      cases x
      exact .cons b (bools_of y)
theorem call_all {K : PySem.W.Frag} (hK : X.K = K) (hc : X.calm = true) : CallR X (.builtin "all") (fun xs H Q => ∃ p, ∃ bs : List Bool, xs = [.ref p] ∧ SqL K H p (bs.map V.bl) ∧ Q (.bl (bs.all id)) H) := by
  subst hK
  intro pins s σ H xs us Q I r h
  obtain ⟨p, bs, rfl, hq, q⟩ := h
  obtain ⟨u, rfl, rx⟩ := vals1 r
  cases rx
  obtain ⟨its, r', pl, hz⟩ := I.list hq
  obtain ⟨m, F⟩ := I.fr
  exact LSm.all_bools F (news_all (g := X.base) (h := s.heap)) (I.ok.hd hc) pl.isList (bools_of r') fun h' tk F' N' => ⟨.bl _, H, I.keptAll F F' N', rfl, q⟩
end
end L2
namespace Sm
open PySem L2 SmSort
end Sm
set_option Elab.async false
set_option linter.all false
set_option maxRecDepth 100000
set_option maxHeartbeats 4000000
namespace Sm
open PySem L2 SmSort
theorem Purse.same {H H' : Hp} {p : Addr} (h : Purse H p) (e : Same H H') : Purse H' p := by
  obtain ⟨x, y, z, q⟩ := h
  exact ⟨x, y, z, e _ _ q⟩
end Sm
set_option Elab.async false
set_option linter.all false
set_option maxRecDepth 100000
set_option maxHeartbeats 4000000
namespace Sm
open PySem L2 SmSort
theorem cut_drop (xs : List V) (k : Nat) : cutV xs (some (k : Int)) none = xs.drop k := by
  unfold cutV
  rw [HT.sIx_nat]
  show (xs.drop (min k xs.length)).take (xs.length - min k xs.length) = xs.drop k
  by_cases h : k ≤ xs.length
  · rw [Nat.min_eq_left h, List.take_of_length_le (by rw [List.length_drop]; exact Nat.le_refl _)]
  · rw [Nat.min_eq_right (by omega), List.drop_eq_nil_of_le (by omega), List.drop_eq_nil_of_le (by omega), List.take_nil]
theorem cut_take (xs : List V) (k : Nat) : cutV xs none (some (k : Int)) = xs.take k := by
  unfold cutV
  rw [HT.sIx_nat]
  show (xs.drop 0).take (min k xs.length - 0) = xs.take k
  rw [List.drop_zero, Nat.sub_zero]
  by_cases h : k ≤ xs.length
  · rw [Nat.min_eq_left h]
  · rw [Nat.min_eq_right (by omega), List.take_of_length_le (Nat.le_refl _), List.take_of_length_le (by omega)]
end Sm
namespace L2
open PySem
theorem iteN {c : Bool} {A : Prop} {D : Ends} {σ : St} {H : Hp} (Pre : St → Hp → Prop) (k : ∀ σ H, Pre σ H → D.nx σ H) (h1 : c = true → (∀ σ H, Pre σ H → D.nx σ H) → A) (h2 : c = false → Pre σ H) : if c = true then A else tNext D σ H := by
  cases c with
  | true => exact h1 rfl k
  | false => exact k _ _ (h2 rfl)
end L2
set_option Elab.async false
set_option linter.all false
set_option maxRecDepth 100000
set_option maxHeartbeats 400000
namespace Sm
open PySem L2 SmSort
def jstep (row F : Fn) (x : W3) : Fn := if below (row x.g) x.t = true ∧ upto (F x.o) x.t = false then put F x.o (some x.t) else F
def jac (ws : List W3) (row : Fn) : Fn := ws.foldl (jstep row) row
def jrow (ws : List W3) (row : Fn) : Nat → Fn
  | 0 => row
  | k + 1 => jac ws (jrow ws row k)
def rk (ws : List W3) : Option Int → Nat
  | none => ws.length + 1
  | some y => ws.countP fun x => decide (x.t < y)
end Sm
set_option Elab.async false
set_option linter.all false
set_option maxRecDepth 100000
set_option maxHeartbeats 400000
namespace L2
open PySem PySem.Spec PyProof.Rows
open AutoSeq1 (wpAny_loadPart')
section
variable {X : Cx}
end
end L2
namespace Sm
open PySem L2 SmSort
end Sm
namespace Sm
open PySem L2 SmSort
theorem atI_ex {xs : List V} {i : Int} (h0 : 0 ≤ i) (h1 : i < xs.length) : ∃ v, atI xs i = some v ∧ v ∈ xs := by
  obtain ⟨k, rfl⟩ := Int.eq_ofNat_of_zero_le h0
  have hk : k < xs.length := by omega
  exact ⟨xs[k], atI_nat (List.getElem?_eq_getElem hk), List.getElem_mem hk⟩
end Sm
namespace L2
open PySem
end L2
namespace Sm
open PySem L2
end Sm
set_option Elab.async false
set_option linter.all false
set_option maxRecDepth 100000
set_option maxHeartbeats 400000
namespace Sm
open PySem L2 SmSort
structure Rows (H0 H : Hp) (ms : List M4) (n k : Nat) (x : Int) (as : List Addr) : Prop where
  pos : as ≠ []
  few : as.length ≤ 200000
  at' : ∀ (i : Nat) (a : Addr), as[i]? = some a → H0 a = none ∧ H a = some (.lst ((rep n (jrow (ways2 ms) (lone k x) i)).map oV))
  ne : ∀ i, i + 1 < as.length → rep n (jrow (ways2 ms) (lone k x) (i + 1)) ≠ rep n (jrow (ways2 ms) (lone k x) i)
  last : rep n (jrow (ways2 ms) (lone k x) as.length) = rep n (jrow (ways2 ms) (lone k x) (as.length - 1))
end Sm
namespace L2
open PySem PySem.Spec PyProof.Rows
section
variable {K : PySem.W.Frag} {a : Addr} {xs : List V} {n : Nat} {caps : List Nat} {g : TG} {tc : TT} {te : TE} {σ : St} {H : Hp} {Qf : Addr → Hp → List V → Prop}
end
end L2
namespace Sm
open PySem L2 SmSort
end Sm
namespace Sm
open PySem L2 SmSort
end Sm
namespace Sm
open PySem L2
end Sm
set_option Elab.async false
set_option linter.all false
set_option maxRecDepth 100000
set_option maxHeartbeats 400000
namespace Sm
open PySem L2 SmSort
def again (ms : List M4) (day first : Int) : Nat → List M4
  | 0 => []
  | r + 1 => again ms day first r ++ ms.map (M4.late ((first + r) * day))
end Sm
set_option Elab.async false
set_option linter.all false
set_option maxRecDepth 100000
set_option maxHeartbeats 400000
namespace L2
open PySem PySem.Spec PyProof.Rows
section
variable {X : Cx} {pins : List (Addr × Obj)} {σ : St} {H : Hp} {s : Shared}
theorem vals_at {xs : List V} {us : List Value} (r : Vals xs us) {j : Nat} (h : j < us.toArray.size) : ∃ x, xs[j]? = some x ∧ RelV x us.toArray[j] := by
  have hl := r.length
  simp only [List.size_toArray] at h
  have a1 : j < xs.length := by omega
  obtain ⟨u, eu, ru⟩ := r.get (i := j) (x := xs[j]) (by simp [a1])
  have e1 : us.toArray[j] = u := by rw [List.getElem_toArray]; exact Option.some.inj ((List.getElem?_eq_getElem h).symm.trans eu)
  exact ⟨xs[j], by simp [a1], by rw [e1]; exact ru⟩
end
end L2
set_option Elab.async false
set_option linter.all false
set_option maxRecDepth 100000
set_option maxHeartbeats 400000
namespace L2
open PySem PySem.Spec PyProof.Rows
def Eqv (K : PySem.W.Frag) (H : Hp) : Nat → V → V → Bool → Prop
  | 0, x, y, b => (x = y ∧ (∃ a, x = .ref a) ∧ b = true) ∨ (flatV x = true ∧ flatV y = true ∧ b = eqV x y)
  | n + 1, x, y, b => (x = y ∧ (∃ a, x = .ref a) ∧ b = true) ∨ (flatV x = true ∧ flatV y = true ∧ b = eqV x y) ∨ ∃ (a c : Addr) (xs ys : List V) (e : Nat → Bool), x = .ref a ∧ y = .ref c ∧ ((SqL K H a xs ∧ SqL K H c ys) ∨ (SqT K H a xs ∧ SqT K H c ys)) ∧ (a = c → b = true) ∧ b = (decide (xs.length = ys.length) && (List.range xs.length).all e) ∧ ∀ (i : Nat) (x y : V), xs[i]? = some x → ys[i]? = some y → Eqv K H n x y (e i)
section
variable {X : Cx} {pins : List (Addr × Obj)} {σ : St} {H : Hp} {s : Shared}
theorem eqv_eq (I : Inv X pins σ H s) : ∀ (n : Nat) {A : Around} {x y : V} {b : Bool} {u v : Value}, A.units + n < cLine → Eqv X.K H n x y b → RelV x u → RelV y v → SeqAt.EqAt A s u v b
  | n, A, x, y, b, u, v, hu, h, ru, rv => by
    have base1 : x = y ∧ (∃ a, x = .ref a) ∧ b = true → SeqAt.EqAt A s u v b := by
      rintro ⟨rfl, ⟨a, rfl⟩, rfl⟩
      cases ru; cases rv
      exact SeqAt.EqAt.same _
    have base2 : flatV x = true ∧ flatV y = true ∧ b = eqV x y → SeqAt.EqAt A s u v b := by
      rintro ⟨h1, h2, rfl⟩
      exact eqAt_V (A := A) (s := s) ru rv h1 h2
    cases n with
    | zero => exact h.elim base1 base2
    | succ n =>
      rcases h with h | h | ⟨a, c, xs, ys, e, rfl, rfl, h, hs, hb, hi⟩
      · exact base1 h
      · exact base2 h
      · cases ru; cases rv
        by_cases ne : a = c
        · rw [hs ne, ne]; exact SeqAt.EqAt.same _
        refine SeqAt.EqAt.of_refs ne ?_
        rcases h with ⟨h1, h2⟩ | ⟨h1, h2⟩
        · obtain ⟨its, r1, p1, _⟩ := I.list h1
          obtain ⟨its2, r2, p2, _⟩ := I.list h2
          have l1 := r1.length
          have l2 := r2.length
          by_cases hl : xs.length = ys.length
          · have := SeqAt.RcAt.lists (A := A) (e := e) p1.isList p2.isList (by simp; omega) (by omega) fun j h1 h2 => by
              obtain ⟨x, ex, rx⟩ := vals_at r1 h1
              obtain ⟨y, ey, ry⟩ := vals_at r2 h2
              exact eqv_eq I n (by show A.units + 1 + n < cLine; omega) (hi j x y ex ey) rx ry
            rw [hb, decide_eq_true hl, Bool.true_and, l1]
            simpa using this
          · rw [hb, decide_eq_false hl, Bool.false_and]
            exact SeqAt.RcAt.lists_lengths (A := A) p1.isList p2.isList (by simp; omega) (by omega)
        · obtain ⟨its, r1, p1, _⟩ := I.tuple h1
          obtain ⟨its2, r2, p2, _⟩ := I.tuple h2
          have l1 := r1.length
          have l2 := r2.length
          have := SeqAt.RcAt.tuples (A := A) (e := e) p1 p2 (by omega) fun j h1 h2 => by
            obtain ⟨x, ex, rx⟩ := vals_at r1 h1
            obtain ⟨y, ey, ry⟩ := vals_at r2 h2
            exact eqv_eq I n (by show A.units + 1 + n < cLine; omega) (hi j x y ex ey) rx ry
          by_cases hl : xs.length = ys.length
          · rw [hb, decide_eq_true hl, Bool.true_and, l1]
            have e1 : its2.length = its.length := by omega
            simpa [e1] using this
          · rw [hb, decide_eq_false hl, Bool.false_and]
            have e1 : ¬ its.length = its2.length := by omega
            have e2 : (its.toArray.size == its2.toArray.size) = false := by simp [e1]
            rw [e2, Bool.and_false] at this
            exact this
def rEqv (K : PySem.W.Frag) (neg : Bool) : R2 := fun x y H Q => ∃ (n : Nat) (a c : Addr) (xs ys : List V) (e : Nat → Bool) (b : Bool), n ≤ 20 ∧ x = .ref a ∧ y = .ref c ∧ ((SqL K H a xs ∧ SqL K H c ys) ∨ (SqT K H a xs ∧ SqT K H c ys)) ∧ b = (decide (xs.length = ys.length) && (List.range xs.length).all e) ∧ (∀ (i : Nat) (x y : V), xs[i]? = some x → ys[i]? = some y → Eqv K H n x y (e i)) ∧ Q (.bl (if neg then !b else b)) H
theorem op_neE (hu : X.A.units + 64 < cLine) : OpR X (compareOp .NotEq) (rEqv X.K true) := by
  intro pins s σ H x y v u Q I rx ry h
  obtain ⟨n, a, c, xs, ys, e, b, hn, rfl, rfl, h, hb, hi, q⟩ := h
  cases rx; cases ry
  rw [if_pos rfl, hb] at q
  rcases h with ⟨h1, h2⟩ | ⟨h1, h2⟩
  · obtain ⟨its, r1, p1, _⟩ := I.list h1
    obtain ⟨its2, r2, p2, _⟩ := I.list h2
    have l1 := r1.length
    have l2 := r2.length
    by_cases hl : xs.length = ys.length
    · rw [decide_eq_true hl, Bool.true_and, l1] at q
      exact SeqAt.RcNeAt.lists (e := e) p1.isList p2.isList (by simp; omega) (by omega) (fun j h1 h2 => by
        obtain ⟨x, ex, rx⟩ := vals_at r1 h1
        obtain ⟨y, ey, ry⟩ := vals_at r2 h2
        exact eqv_eq I n (by show X.A.units + 1 + n < cLine; omega) (hi j x y ex ey) rx ry) _ _ _ _ ⟨.bl _, H, I, rfl, by simpa using q⟩
    · rw [decide_eq_false hl, Bool.false_and] at q
      exact SeqAt.RcNeAt.lists_lengths p1.isList p2.isList (by simp; omega) (by omega) _ _ _ _ ⟨.bl _, H, I, rfl, q⟩
  · obtain ⟨its, r1, p1, _⟩ := I.tuple h1
    obtain ⟨its2, r2, p2, _⟩ := I.tuple h2
    have l1 := r1.length
    have l2 := r2.length
    have key : ((List.range (min its.toArray.size its2.toArray.size)).all e && its.toArray.size == its2.toArray.size) = (decide (xs.length = ys.length) && (List.range xs.length).all e) := by
      by_cases hl : xs.length = ys.length
      · have e1 : its2.length = its.length := by omega
        rw [decide_eq_true hl, Bool.true_and, l1]; simp [e1]
      · have e1 : ¬ its.length = its2.length := by omega
        rw [decide_eq_false hl, Bool.false_and]; simp [e1]
    rw [← key] at q
    exact SeqAt.RcNeAt.tuples (e := e) p1 p2 (by omega) (fun j h1 h2 => by
      obtain ⟨x, ex, rx⟩ := vals_at r1 h1
      obtain ⟨y, ey, ry⟩ := vals_at r2 h2
      exact eqv_eq I n (by show X.A.units + 1 + n < cLine; omega) (hi j x y ex ey) rx ry) _ _ _ _ ⟨.bl _, H, I, rfl, q⟩
end
end L2
set_option Elab.async false
set_option linter.all false
set_option maxRecDepth 100000
set_option maxHeartbeats 4000000
namespace Sm
open PySem L2 SmSort
theorem ahead {n : Nat} {ms : List M4} {m : M4} (g : Good n (ms ++ [m])) {v : Nat} {x y : Int} {i : Nat} (hi : i ≠ v) (h : fwd ms (lone v x) i = some y) : y ≤ m.t ∧ ((i = m.lo.toNat ∨ i = m.hi.toNat) → y < m.t) := by
  obtain ⟨a, ha, ao, at', _⟩ := run_from (ws := ways2 ms) h (by simp [lone, hi])
  unfold ways2 at ha
  obtain ⟨c, hc, hx⟩ := List.mem_flatMap.mp ha
  have od := (List.pairwise_append.mp g.order).2.2 c hc m (by simp)
  obtain ⟨c1, c2, c3, _⟩ := g.each c (by simp [hc])
  obtain ⟨m1, m2, m3, _⟩ := g.each m (by simp)
  unfold two at hx
  simp only [List.mem_cons, List.not_mem_nil, or_false] at hx
  have ct : c.t = y := by rcases hx with rfl | rfl <;> exact at'
  have ci : i = c.lo.toNat ∨ i = c.hi.toNat := by
    rcases hx with rfl | rfl
    · exact .inr ao.symm
    · exact .inl ao.symm
  refine ⟨by rcases od with h | h <;> omega, fun hm => ?_⟩
  rcases od with h | ⟨h1, h2, h3, h4, h5, h6⟩
  · omega
  · exfalso
    rcases ci with e | e <;> rcases hm with e' | e' <;> omega
end Sm
set_option Elab.async false
set_option linter.all false
set_option maxRecDepth 100000
set_option maxHeartbeats 4000000
namespace L2
open PySem PySem.Spec PyProof.Rows
section
variable {X : Cx} {pins : List (Addr × Obj)} {σ : St} {H : Hp} {s : Shared}
theorem ps_setComp {ix : Nat} {xn : Str} {pos' spos : Pos} {own : List Str} {caps : List Nat} {elt tg iter : Expr} {ifs : List Expr} {scope : Scope} {pos : Pos} {wi : TI} {g : TG} {tc : TT} {te : TE} (hN : X.N.Nodup) (hix : X.N[ix]? = some xn) (hxl : Loc X.env.scope xn) (hc : X.calm = true) (S : CompScope own caps X.N X.env.scope scope) (hi : PI X tg iter wi)
    (hg : ∀ s H fp C, PG (cxComp X own caps scope s H fp C) tg g) (ht : ∀ s H fp C, PTs (cxComp X own caps scope s H fp C) ifs tc) (he : ∀ s H fp C, PE (cxComp X own caps scope s H fp C) elt te)
    (hs : ∀ x, foldedSetIterable iter X.env x = pure x := by intro _; rfl) (hsw : swapsWith (.ListComp elt [⟨tg, iter, ifs, 0⟩] scope pos) (some (.Name xn pos')) spos.line X.env = pure true := by rfl)
    (hf : X.fn xn = true ∨ X.env.scope.names.lookup xn = some .local := by first | exact .inl rfl | exact .inr rfl | assumption) :
    PS X (.Assign [.Name xn pos'] (.ListComp elt [⟨tg, iter, ifs, 0⟩] scope pos) spos) (tAsg (tComp own.length caps wi g tc te) (gName ix)) := by
  intro pins s σ H D0 I h
  rw [exec_Assign_Name_used _ _ _ _ hsw, arm_evalThenUse_ListComp]
  suffices main : wpAny (model X.prog X.w) X.A (comprehension (.ListComp elt [⟨tg, iter, ifs, 0⟩] scope pos) scope X.env (firstIterPos [⟨tg, iter, ifs, 0⟩] pos) (newList []) false (eval iter X.env) (some (assign (.Name xn pos') X.env))) (fun _ s1 => SP X pins D0 .next s1) X.xe s from
    wpAny_bind (wpAny_standAt (wpAny_bind (wpAny_bind (wpAny_mono main (fun _ s1 h => wpAny_pure (wpAny_pure h)) fun _ _ e => e))))
  refine wpAny_comprehension_free (use := some _) (cl := clOf scope.names X.env []) rfl hs (closureFor_eq fun y hy e => I.ok.has y.1 (S.fr y hy e)) S.kind S.loc
    (wpAny_mono (hi pins s σ H _ I h) (fun v s1 h1 => thn h1 fun itv s2 h2 => ?_) fun _ _ e => e)
  obtain ⟨it, fp, tn, J, H2, e, I2, T, st2, f2, W, ⟨m0, w0⟩, turn⟩ := h2
  subst e
  refine wpAny_newObj_type (wpAny_newFunctionEnv S.nocell (by intro y hy; simp at hy) (fun h₁ hns₁ hsb₁ => ?_) S.kind)
  dsimp only at hns₁ hsb₁ ⊢
  generalize hH2 : s2.heap.push { cls := .type "list", dict := none, data := .seq ([] : List Value).toArray } = G at hns₁ hsb₁ ⊢
  have hG : G.objs.size = s2.heap.objs.size + 1 := by rw [← hH2, Heap.size_push]
  have hDC : s2.heap.objs.size ≠ G.objs.size := by rw [hG]; exact Nat.ne_of_lt (Nat.lt_succ_self _)
  have hCle : s2.heap.objs.size ≤ G.objs.size := by rw [hG]; exact Nat.le_succ _
  have below : ∀ b, b < s2.heap.objs.size → b ≠ G.objs.size := fun b hb => by rw [hG]; exact Nat.ne_of_lt (Nat.lt_succ_of_lt hb)
  have old : ∀ b o, s2.heap.get? b = some o → h₁.get? b = some o := fun b o e => hsb₁.extBut b o (below b (Heap.lt_size e)) (Heap.get?_push_of_some _ (hH2 ▸ Heap.get?_push_of_some _ e))
  have hacc : h₁.get? s2.heap.objs.size = some { cls := .type "list", dict := none, data := .seq ([] : List Value).toArray } := hsb₁.extBut _ _ hDC (Heap.get?_push_of_some _ (hH2 ▸ Heap.get?_push_size _ rfl))
  have fl : ∀ b ∈ fp, b < s2.heap.objs.size := fun b hb => let ⟨o, e, _⟩ := T.obj _ _ st2 b hb; Heap.lt_size e
  have hns₁' : h₁.Ns G.objs.size fun _ => none := hns₁
  have I4 := inv_comp (tk := s2.toks + ([] : List (Str × Value)).length) I2 S f2 fl (Nat.le_refl _) hCle hDC old hns₁' hacc (fun v z => nomatch z)
  have st4 : tn 0 h₁ := T.keep _ _ _ st2 fun b _ o e => old b o e
  generalize hs4 : ({ s2 with heap := h₁, toks := s2.toks + ([] : List (Str × Value)).length } : Shared) = s4 at I4 ⊢
  have e4 : s4.heap = h₁ := by rw [← hs4]
  rw [← e4] at st4
  -- the loop
  have loop : codeAny (model X.prog X.w) X.A (.compLoop (.ListComp elt [⟨tg, iter, ifs, 0⟩] scope pos) 0 (.ref it) (.ref s2.heap.objs.size) (compEnvC scope (clOf scope.names X.env []) G.objs.size X.env))
      (compPost (model X.prog X.w) X.A X.xe (some (assign (.Name xn pos') X.env)) (fun _ s1 => SP X pins D0 .next s1) (.ref s2.heap.objs.size) G.objs.size) s4 := by
    let Y := cxComp X own caps scope s2 H2 fp G.objs.size
    have stat : ∀ {H' : Hp} {its : List Value} {n : Nat}, (∀ b ∈ fp, H' b = none) → ∀ b ∈ fp, FpOk Y [(s2.heap.objs.size, ({ cls := .type "list", data := .seq its.toArray n } : Obj))] H' b := fun {H' its n} hn b hb => by
      refine ⟨hn b hb, below b (fl b hb), fun z => ?_, .inl hb, fun x c e => (f2 b hb).2.2.2.2.1 x c (clOf_lookup e), fun p hp => ?_⟩
      · rcases List.mem_cons.mp (I2.stkSub b z) with e | e
        · exact (f2 b hb).2.1 e
        · exact (f2 b hb).2.2.1 e
      · have e : p = (s2.heap.objs.size, ({ cls := .type "list", data := .seq its.toArray n } : Obj)) := by simpa using (show p ∈ [] ++ [_] from hp)
        subst e
        exact Nat.ne_of_gt (fl b hb)
    refine loop_comp (fun n s' => ∃ i τ acc its k H', Inv Y [(s2.heap.objs.size, ({ cls := .type "list", data := .seq its.toArray k } : Obj))] τ H' s' ∧ tn i s'.heap ∧ (∀ b ∈ fp, H' b = none) ∧ Vals acc its ∧ W i n τ acc H') ?_ m0
      ⟨0, _, [], [], 0, H2, I4, st4, fun b hb => (f2 b hb).1, .nil, w0⟩
    rintro n s5 ⟨i, τ, acc, its, k, H5, I5, st5, fr5, rv5, w5⟩
    rcases turn i n τ acc H5 w5 with ⟨stop, hz, q⟩ | ⟨go, hz, step⟩
    · refine thn (T.done Y rfl rfl rfl hc i _ s5 τ H5 (fun _ _ => False) I5 (stat fr5) st5 stop) fun r s6 ⟨hr, I6⟩ => ?_
      subst hr
      obtain ⟨eD, nD, _, _, _⟩ := I6.pin _ (List.mem_append_right _ (List.mem_singleton.mpr rfl))
      obtain ⟨m6, hm6, _⟩ := I6.loc
      have hC6 : H5 G.objs.size = none := I6.free
      have hok6 : HOk X.prog X.w H5 s6.heap := I6.hok
      have ub := I6.base
      have IX : Inv X pins σ (upd H5 s2.heap.objs.size (.lst acc)) s6 := by
        refine I2.call' (ch := fp) (s' := s6) I6.os ⟨fun b o e n' hb hx => ub.keep b o e n' hb hx, fun b o e n' hb hx => ?_, fun b o e n' hx => ?_, fun b o e hx => ?_, fun b xs e => ?_, fun b o u e => ?_, fun b ps e => ?_⟩
          (hok6.track nD ⟨hz, its, k, rv5, eD⟩) I6.bare fun b hb => ⟨(f2 b hb).2.2.2.1, (f2 b hb).2.1, (f2 b hb).2.2.2.2.1, (f2 b hb).2.2.2.2.2⟩
        · exact ub.slot b o e n' hb hx
        · rw [upd_ne (Nat.ne_of_lt (Heap.lt_size e))]
          exact ub.free b o e n' hx
        · exact ub.there b o e hx
        · have z := ub.tups b xs e
          rw [upd_ne (ne_of_none z nD)]; exact z
        · have z := ub.frzs b o u e
          rw [upd_ne (ne_of_none z nD)]; exact z
        · obtain ⟨more, z⟩ := ub.tbls b ps e
          exact ⟨more, by rw [upd_ne (ne_of_none z nD)]; exact z⟩
      have hCX : (upd H5 s2.heap.objs.size (.lst acc)) G.objs.size = none := by rw [upd_ne (Ne.symm hDC)]; exact hC6
      have fC : FpOk X pins (upd H5 s2.heap.objs.size (.lst acc)) G.objs.size := I2.fpOk hCle hCX
      obtain ⟨oC, esC, epC, gC, dC, rC⟩ := hm6
      have IP := IX.pinned (fp := [G.objs.size]) (fun b hb => by cases List.mem_singleton.mp hb; exact fC) (fun b hb => by cases List.mem_singleton.mp hb; exact ⟨oC, gC, fun v z => by rw [dC] at z; cases z⟩)
      refine wpAny_assign_Name (store_ok IP hN hix hxl (v := .ref s2.heap.objs.size) rfl (fun s7 I7 => ?_) hf)
      have pC := (I7.pin (G.objs.size, oC) (List.mem_append_right _ (List.mem_append_right _ (mem_pinsAt (List.mem_singleton.mpr rfl) gC)))).1
      refine ⟨m6, ⟨oC, esC, epC, pC, dC, rC⟩, fun h' hsb => ?_⟩
      have I8 : Inv X pins (σ.set ix (some (.ref s2.heap.objs.size))) (upd H5 s2.heap.objs.size (.lst acc)) { s7 with heap := h' } := I7.unpinned.turned (t' := s7.toks) (fun b o hb e => hsb.extBut b o hb e) fC.1 fC.2.1 fC.2.2.2.1 fC.2.2.2.2.1 fC.2.2.2.2.2
      exact ⟨_, _, I8, q _ nD⟩
    · refine thn (T.item Y rfl rfl rfl hc i _ s5 τ H5 (fun _ _ => False) I5 (stat fr5) st5 go) fun r s6 ⟨u, hr, h6⟩ => ?_
      subst hr
      refine thn h6 fun _ s7 ⟨x, H7, I7, r7, y7, st7, fr7⟩ => ?_
      have I7' := I7.pinned (stat fr7) (T.obj _ _ st7)
      refine thn (hg s2 H2 fp G.objs.size _ s7 τ H7 x u _ I7' r7 (step x H7 y7)) fun _ s8 ⟨τ8, H8, I8, q8⟩ => ?_
      refine thn (ht s2 H2 fp G.objs.size _ s8 τ8 H8 _ I8 q8) fun ok s9 ⟨H9, I9, q9⟩ => ?_
      -- the iterator's state behind the turn
      have back : ∀ {s' : Shared} {τ' : St} {H' : Hp}, Inv Y ([(s2.heap.objs.size, ({ cls := .type "list", data := .seq its.toArray k } : Obj))] ++ pinsAt fp s7.heap) τ' H' s' → (tn (i + 1) s'.heap ∧ ∀ b ∈ fp, H' b = none) := fun {s' τ' H'} Ib =>
        ⟨T.keep _ _ _ st7 fun b hb o e => (Ib.pin (b, o) (List.mem_append_right _ (List.mem_append_right _ (mem_pinsAt hb e)))).1, fun b hb => by
          obtain ⟨o, e, d⟩ := T.obj _ _ st7 b hb
          exact (Ib.pin (b, o) (List.mem_append_right _ (List.mem_append_right _ (mem_pinsAt hb e)))).2.1⟩
      cases ok with
      | false =>
        obtain ⟨m', hm', w'⟩ := q9
        obtain ⟨sb, fb⟩ := back I9
        exact ⟨m', hm', i + 1, τ8, acc, its, k, H9, I9.unpinned, sb, fb, rv5, w'⟩
      | true =>
        refine thn (he s2 H2 fp G.objs.size _ s9 τ8 H9 _ I9 q9) fun y s10 ⟨yv, H10, I10, r10, q10⟩ => ?_
        obtain ⟨m', hm', w'⟩ := q10
        obtain ⟨sb, fb⟩ := back I10
        obtain ⟨eD, nD, neD, nfD, _⟩ := I10.pin (s2.heap.objs.size, _) (List.mem_append_right _ (List.mem_append_left _ (List.mem_singleton.mpr rfl)))
        have hl : acc.length = its.length := rv5.length
        refine call_meets F.slot_list_append ⟨_, eD, rfl⟩ F.entry_list_append (F.args_list_append_2 _ _) (PySem.list_append s2.heap.objs.size its.toArray k y (by rw [List.size_toArray]; omega)) ⟨eD, ?_⟩
        have q := PySem.IsL.update eD (fun a : Array Value => a.push y)
        have Iu : Inv Y [] τ8 H10 s10 := I10.pins_of fun p hp => nomatch hp
        have It := Iu.turned (t' := s10.toks) (it := s2.heap.objs.size) (h' := s10.heap.update s2.heap.objs.size (Obj.mapSeq (fun a : Array Value => a.push y))) (fun b o hb e => (Heap.get?_update_other s10.heap _ (Ne.symm hb)).trans e) nD neD (.inr (Nat.le_refl _))
          (fun x c e z => by
            obtain ⟨v, ob, hob, _⟩ := I2.cell x c (clOf_lookup e)
            exact absurd (Heap.lt_size hob) (by rw [z]; exact Nat.lt_irrefl _)) (fun p hp => nomatch hp)
        have It' := It.pins_of (pins' := [(s2.heap.objs.size, ({ cls := .type "list", data := .seq (its ++ [y]).toArray (k + 1) } : Obj))]) fun p hp => by
          have e : p = _ := List.mem_singleton.mp hp
          subst e
          exact ⟨by simpa using q, nD, neD, nfD, fun v z => nomatch z⟩
        refine ⟨m', hm', i + 1, τ8, acc ++ [yv], its ++ [y], _, H10, It', T.keep _ _ _ sb fun b hb o e => (Heap.get?_update_other s10.heap _ (Nat.ne_of_gt (fl b hb))).trans e, fb, rv5.append (.cons r10 .nil), w'⟩
  exact codeAny_compStart_list loop (T.self _ 0 s4 _ _ st4 loop)
end
end L2
set_option Elab.async false
set_option linter.all false
namespace Sm
open PySem L2 SmSort
theorem iteO {c : Bool} {A B : Prop} {D : Ends} {σ : St} {H : Hp} (Pre : St → Hp → Prop) (k : ∀ σ H, Pre σ H → D.nx σ H) (h1 : c = true → (∀ σ H, Pre σ H → D.nx σ H) → A) (h2 : c = false → (∀ σ H, Pre σ H → D.nx σ H) → B) : if c = true then (if true = true then A else tNext D σ H) else B := by
  cases c with
  | true => exact h1 rfl k
  | false => exact h2 rfl k
theorem iteA {c : Bool} {T2 A : Prop} {D : Ends} {σ : St} {H : Hp} (Pre : St → Hp → Prop) (k : ∀ σ H, Pre σ H → D.nx σ H) (h1 : c = true → (∀ σ H, Pre σ H → D.nx σ H) → T2) (h2 : c = false → Pre σ H) : if c = true then T2 else (if false = true then A else tNext D σ H) := by
  cases c with
  | true => exact h1 rfl k
  | false => exact k _ _ (h2 rfl)
end Sm
set_option Elab.async false
set_option linter.all false
set_option maxRecDepth 100000
set_option maxHeartbeats 400000
namespace Sm
open PySem L2 SmSort
structure Loose (w : Int) (ms : List M4) : Prop where
  few : ms.length ≤ 60
  each : ∀ r ∈ ms, 0 ≤ r.lo ∧ r.lo < r.hi ∧ r.hi < w ∧ 1 ≤ r.t ∧ r.t ≤ 1000000000 ∧ 1 ≤ r.m ∧ r.m ≤ 99
  pw : ms.Pairwise fun a b => a.t = b.t → apart a b
def ListAt (H : Hp) (l : Addr) (fs : List (Addr × M4)) : Prop := H l = some (.lst (fs.map fun a => V.ref a.1)) ∧ RowsAt H fs
theorem ListAt.same {H H' : Hp} {l : Addr} {fs : List (Addr × M4)} (h : ListAt H l fs) (s : Same H H') : ListAt H' l fs := ⟨s _ _ h.1, h.2.tups (Tups.same s)⟩
end Sm
namespace Sm
open PySem L2 SmSort
end Sm
set_option Elab.async false
set_option linter.all false
namespace Sm
open PySem L2 SmSort
theorem us1 {fd : FuncData} {ps : List Str} {us : List Value} (h : us.length = 1) (q : ∀ a, bindArgs fd ⟨[a], []⟩ = pure (ps.zip [a])) : bindArgs fd ⟨us, []⟩ = pure (ps.zip us) := match us, h with | [a], _ => q a
theorem us2 {fd : FuncData} {ps : List Str} {us : List Value} (h : us.length = 2) (q : ∀ a b, bindArgs fd ⟨[a, b], []⟩ = pure (ps.zip [a, b])) : bindArgs fd ⟨us, []⟩ = pure (ps.zip us) := match us, h with | [a, b], _ => q a b
theorem us3 {fd : FuncData} {ps : List Str} {us : List Value} (h : us.length = 3) (q : ∀ a b c, bindArgs fd ⟨[a, b, c], []⟩ = pure (ps.zip [a, b, c])) : bindArgs fd ⟨us, []⟩ = pure (ps.zip us) := match us, h with | [a, b, c], _ => q a b c
end Sm
set_option Elab.async false
set_option linter.all false
set_option maxRecDepth 100000
set_option maxHeartbeats 400000
namespace Sm
open PySem L2 SmSort
def whenOf (ms : List M4) (j : Int) : Int := ((ms[j.toNat]?).map (·.t)).getD 0
def whens (ms : List M4) (k : Nat) : List Int := (numsTo ms k ms.length).map (whenOf ms)
section
variable {n k w : Nat} {ms : List M4} {day : Int}
end
end Sm
set_option Elab.async false
set_option linter.all false
set_option maxRecDepth 100000
set_option maxHeartbeats 400000
namespace Sm
open PySem L2 SmSort
theorem inv_self {K : PySem.W.Frag} {t : Value} : PySem.W.kitOne K t t = some true := by
  unfold PySem.W.kitOne
  rw [if_pos (beq_self_eq_true t)]
theorem bl_flat {xs : List V} (h : ∀ x ∈ xs, ∃ b, x = V.bl b) : ∀ x ∈ xs, flatV x = true ∧ eqV x x = true := fun x hx => by
  obtain ⟨b, rfl⟩ := h x hx
  cases b <;> exact ⟨rfl, rfl⟩
end Sm
namespace Sm
open PySem L2 SmSort
theorem app_kit {K : PySem.W.Frag} {D : Ends} {σ : St} {H : Hp} {i j : Nat} {l x C : Addr} {xs cs : List V} {b : Bool} {ta : TA} (e2 : σ[i]? = some (some (.ref l))) (e3 : σ[j]? = some (some (.ref x))) (hl : H l = some (.lst xs)) (hx : H x = some (excO x C)) (xc : XCls K C)
    (hc : cs.all isCls = true) (hk : PySem.W.kitAny K (.ref C) (cs.map vv) = some b) (n1 : xs.length ≤ 50) (n2 : cs.length ≤ 50) (ht : ∀ (H' : Hp) (Q : List V → Hp → Prop), Q cs H' → ta σ H' Q)
    (q : ∀ H', But l H H' → H' l = some (.lst (xs ++ [.bl b])) → H' x = some (excO x C) → D.nx σ H') :
    tDrop (tBM K "list" rAppend (tVar i) (tCons (tCB (fun xs H Q => ∃ a C tp cs b, xs = [V.ref a, V.ref tp] ∧ H a = some (excO a C) ∧ XCls K C ∧ SqT K H tp cs ∧ cs.all isCls = true ∧ PySem.W.kitAny K (Value.ref C) (List.map vv cs) = some b ∧ Q (V.bl b) H) (tCons (tVar j) (tCons (tTup ta) tNil))) tNil)) D σ H := by
  have line : 1002 ≤ sizeLine := by rw [sizeLine_eq]; decide
  refine ⟨_, e2, .inl ⟨rfl, _, SqL.of hl⟩, _, e3, ht _ _ ⟨by omega, fun tp htp => ?_⟩⟩
  have s1 := same_new (o := HO.tup cs) htp
  have nx : x ≠ l := ne_of hx hl (by intro z; cases z)
  exact ⟨x, C, tp, cs, b, rfl, s1 _ _ hx, xc, SqT.of upd_same, hc, hk, l, xs, _, rfl, rfl, s1 _ _ hl, by omega, q _ ((show But l H _ from fun _ _ _ e => s1 _ _ e).trans But.set) upd_same (by rw [upd_ne nx]; exact s1 _ _ hx)⟩
end Sm
namespace Sm
open PySem L2 SmSort
end Sm
set_option Elab.async false
set_option linter.all false
set_option maxRecDepth 100000
set_option maxHeartbeats 400000
namespace SmSet
open PySem
theorem below_go {xs : Array Nat} {j : Nat} (so : xs.toList.Pairwise (· < ·)) : ∀ (fuel lo hi : Nat), hi - lo ≤ fuel → lo ≤ hi → hi ≤ xs.size → (∀ i (h : i < xs.size), i < lo → xs[i] < j) → (∀ i (h : i < xs.size), hi ≤ i → j ≤ xs[i]) →
    SetTable.below.go xs j fuel lo hi ≤ xs.size ∧ (∀ i (h : i < xs.size), i < SetTable.below.go xs j fuel lo hi → xs[i] < j) ∧ ∀ i (h : i < xs.size), SetTable.below.go xs j fuel lo hi ≤ i → j ≤ xs[i]
  | 0, lo, hi, hf, h1, h2, hl, hh => by
    have : lo = hi := by omega
    subst this
    unfold SetTable.below.go
    exact ⟨h2, hl, hh⟩
  | fuel + 1, lo, hi, hf, h1, h2, hl, hh => by
    unfold SetTable.below.go
    have mono : ∀ a b (ha : a < xs.size) (hb : b < xs.size), a < b → xs[a] < xs[b] := fun a b ha hb ab => by
      have := List.pairwise_iff_getElem.mp so a b (by simpa using ha) (by simpa using hb) ab
      simpa using this
    by_cases c : lo < hi
    · rw [if_pos c]
      dsimp only
      have hm : (lo + hi) / 2 < xs.size := by omega
      have e : xs.getD ((lo + hi) / 2) j = xs[(lo + hi) / 2] := by simp [Array.getD, hm]
      rw [e]
      by_cases d : xs[(lo + hi) / 2] < j
      · rw [if_pos d]
        refine below_go so fuel _ _ (by omega) (by omega) h2 (fun i h hi' => ?_) hh
        by_cases q : i = (lo + hi) / 2
        · subst q; exact d
        · exact Nat.lt_trans (mono i ((lo + hi) / 2) h hm (by omega)) d
      · rw [if_neg d]
        refine below_go so fuel _ _ (by omega) (by omega) (by omega) hl (fun i h hi' => ?_)
        by_cases q : i = (lo + hi) / 2
        · subst q; omega
        · have := mono ((lo + hi) / 2) i hm h (by omega)
          omega
    · rw [if_neg c]
      have : lo = hi := by omega
      subst this
      exact ⟨h2, hl, hh⟩
theorem below_spec {xs : Array Nat} {j : Nat} (so : xs.toList.Pairwise (· < ·)) : SetTable.below xs j ≤ xs.size ∧ (∀ i (h : i < xs.size), i < SetTable.below xs j → xs[i] < j) ∧ ∀ i (h : i < xs.size), SetTable.below xs j ≤ i → j ≤ xs[i] :=
  below_go so _ _ _ (by omega) (by omega) (Nat.le_refl _) (fun _ _ h => absurd h (Nat.not_lt_zero _)) (fun i h hi => absurd h (by omega))
theorem below_at {xs : Array Nat} {j i : Nat} (so : xs.toList.Pairwise (· < ·)) (h : xs[i]? = some j) : SetTable.below xs j = i := by
  obtain ⟨hi, e⟩ := Array.getElem?_eq_some_iff.mp h
  obtain ⟨b1, b2, b3⟩ := below_spec (j := j) so
  rcases Nat.lt_trichotomy (SetTable.below xs j) i with c | c | c
  · have hb : SetTable.below xs j < xs.size := by omega
    have := b3 _ hb (Nat.le_refl _)
    have m := List.pairwise_iff_getElem.mp so (SetTable.below xs j) i (by simpa using hb) (by simpa using hi) c
    simp only [Array.getElem_toList] at m
    omega
  · exact c
  · have := b2 i hi c
    omega
theorem slot_live {t : SetTable} {j i : Nat} (so : t.place.toList.Pairwise (· < ·)) (h : t.place[i]? = some j) : t.slot j = .live i := by
  unfold SetTable.slot
  dsimp only
  rw [below_at so h, h]
  simp
theorem slot_empty {t : SetTable} {j : Nat} (nd : t.dummies = #[]) (h : j ∉ t.place.toList) : t.slot j = .empty := by
  unfold SetTable.slot
  dsimp only
  rw [if_neg, if_neg]
  · rw [nd]
    unfold SetTable.has
    simp
  · intro c
    have : t.place[SetTable.below t.place j]? = some j := by simpa using c
    exact h (by simpa using Array.mem_of_getElem? this)
def adv (m : Nat) (p : SetTable.Probe) : SetTable.Probe :=
  if p.more > 0 then { p with j := p.j + 1, more := p.more - 1 } else
  { p with j := (SetTable.leap m p.i p.perturb).1, more := SetTable.runEnd m (SetTable.leap m p.i p.perturb).1 - (SetTable.leap m p.i p.perturb).1, i := (SetTable.leap m p.i p.perturb).1, perturb := (SetTable.leap m p.i p.perturb).2 }
theorem advance_eq (t : SetTable) (p : SetTable.Probe) : t.advance p = adv t.mask p := rfl
def run (m i u : Nat) : SetTable.Probe := { j := i, more := SetTable.runEnd m i - i, i, perturb := u, dummy := none }
def start (m : Nat) (h : Int) : SetTable.Probe := run m (SetTable.bits h % (m + 1)) (SetTable.bits h)
def ad (m : Nat) : Nat → SetTable.Probe → SetTable.Probe
  | 0, p => p
  | n + 1, p => ad m n (adv m p)
theorem ad_succ (m n : Nat) (p : SetTable.Probe) : ad m (n + 1) p = adv m (ad m n p) := by
  induction n generalizing p with
  | zero => rfl
  | succ n ih => exact ih (adv m p)
theorem ad_add (m a b : Nat) (p : SetTable.Probe) : ad m (a + b) p = ad m b (ad m a p) := by
  induction a generalizing p with
  | zero => rw [Nat.zero_add]; rfl
  | succ a ih => rw [Nat.succ_add]; exact ih (adv m p)
theorem adv_dummy {m : Nat} {p : SetTable.Probe} : (adv m p).dummy = p.dummy := by unfold adv; split <;> rfl
theorem ad_dummy {m : Nat} : ∀ {n : Nat} {p : SetTable.Probe}, (ad m n p).dummy = p.dummy
  | 0, _ => rfl
  | n + 1, p => (ad_dummy (n := n)).trans adv_dummy
def at' (m : Nat) (h : Int) (n : Nat) : Nat := (ad m n (start m h)).j
theorem ad_in_run {m i u : Nat} : ∀ k, k ≤ SetTable.runEnd m i - i → ad m k (run m i u) = { j := i + k, more := SetTable.runEnd m i - i - k, i, perturb := u, dummy := none }
  | 0, _ => rfl
  | k + 1, h => by
    rw [ad_succ, ad_in_run k (by omega)]
    unfold adv
    dsimp only
    rw [if_pos (by omega)]
    rfl
theorem ad_next_run {m i u : Nat} : ad m (SetTable.runEnd m i - i + 1) (run m i u) = run m ((i * 5 + 1 + u / 32) % (m + 1)) (u / 32) := by
  rw [ad_succ, ad_in_run _ (Nat.le_refl _)]
  unfold adv
  dsimp only
  rw [if_neg (by omega)]
  rfl
theorem runEnd_le {m i : Nat} : SetTable.runEnd m i - i ≤ 9 ∧ i ≤ SetTable.runEnd m i ∧ (i ≤ m → SetTable.runEnd m i ≤ m) := by
  unfold SetTable.runEnd
  split <;> omega
def runs (m : Nat) : Nat → Nat → Nat → Nat × Nat
  | 0, i, u => (i, u)
  | r + 1, i, u => runs m r ((i * 5 + 1 + u / 32) % (m + 1)) (u / 32)
theorem runs_at {m : Nat} : ∀ (r i u : Nat), ∃ c, c ≤ 10 * r ∧ ad m c (run m i u) = run m (runs m r i u).1 (runs m r i u).2
  | 0, i, u => ⟨0, Nat.le_refl _, rfl⟩
  | r + 1, i, u => by
    obtain ⟨c, hc, e⟩ := runs_at r ((i * 5 + 1 + u / 32) % (m + 1)) (u / 32)
    refine ⟨SetTable.runEnd m i - i + 1 + c, ?_, ?_⟩
    · have := (runEnd_le (m := m) (i := i)).1; omega
    · rw [ad_add, ad_next_run, e]; rfl
theorem runs_add {m : Nat} : ∀ (a b i u : Nat), runs m (a + b) i u = runs m b (runs m a i u).1 (runs m a i u).2
  | 0, b, i, u => by rw [Nat.zero_add]; rfl
  | a + 1, b, i, u => by rw [Nat.succ_add]; exact runs_add a b _ _
theorem runs_perturb {m : Nat} : ∀ (r i u : Nat), (runs m r i u).2 = u / 32 ^ r
  | 0, i, u => by simp [runs]
  | r + 1, i, u => by
    show (runs m r _ (u / 32)).2 = _
    rw [runs_perturb r, Nat.div_div_eq_div_mul, Nat.pow_succ, Nat.mul_comm]
theorem runs_small {m : Nat} : ∀ (r i u : Nat), i ≤ m → (runs m r i u).1 ≤ m
  | 0, i, u, h => h
  | r + 1, i, u, h => runs_small r _ _ (Nat.lt_succ_iff.mp (Nat.mod_lt _ (by omega)))
def f5 (m : Nat) : Nat → Nat → Nat
  | 0, i => i
  | s + 1, i => f5 m s ((i * 5 + 1) % (m + 1))
theorem runs_f5 {m : Nat} : ∀ (s i : Nat), (runs m s i 0).1 = f5 m s i
  | 0, i => rfl
  | s + 1, i => by
    show (runs m s ((i * 5 + 1 + 0 / 32) % (m + 1)) (0 / 32)).1 = f5 m s ((i * 5 + 1) % (m + 1))
    rw [Nat.zero_div, Nat.add_zero]
    exact runs_f5 s _
theorem f5_add {m : Nat} : ∀ (a b i : Nat), f5 m (a + b) i = f5 m b (f5 m a i)
  | 0, b, i => by rw [Nat.zero_add]; rfl
  | a + 1, b, i => by rw [Nat.succ_add]; exact f5_add a b _
def bitsOf (m : Nat) : Nat → Nat → Nat → Nat
  | 0, _, acc => acc
  | s + 1, i, acc => bitsOf m s ((i * 5 + 1) % (m + 1)) (acc ||| (2 ^ i))
theorem bitsOf_spec {m j : Nat} : ∀ (s i acc : Nat), (bitsOf m s i acc).testBit j = true → acc.testBit j = true ∨ ∃ a, a < s ∧ f5 m a i = j
  | 0, i, acc, h => .inl h
  | s + 1, i, acc, h => by
    rcases bitsOf_spec s _ _ h with h | ⟨a, ha, e⟩
    · rw [Nat.testBit_or, Bool.or_eq_true] at h
      rcases h with h | h
      · exact .inl h
      · rw [Nat.testBit_two_pow] at h
        exact .inr ⟨0, by omega, of_decide_eq_true h⟩
    · exact .inr ⟨a + 1, by omega, e⟩
def Mask (m : Nat) : Prop := m = 7 ∨ m = 31 ∨ m = 127 ∨ m = 511 ∨ m = 2047 ∨ m = 8191
theorem cover0 {m : Nat} (hm : Mask m) : f5 m (m + 1) 0 = 0 ∧ ∀ j, j ≤ m → ∃ a, a ≤ m ∧ f5 m a 0 = j := by
  have key : f5 m (m + 1) 0 = 0 ∧ bitsOf m (m + 1) 0 0 = 2 ^ (m + 1) - 1 := by
    rcases hm with rfl | rfl | rfl | rfl | rfl | rfl <;> constructor <;> decide +kernel
  refine ⟨key.1, fun j hj => ?_⟩
  have : (bitsOf m (m + 1) 0 0).testBit j = true := by
    rw [key.2, Nat.testBit_two_pow_sub_one]
    exact decide_eq_true (by omega)
  rcases bitsOf_spec _ _ _ this with h | ⟨a, ha, e⟩
  · simp at h
  · exact ⟨a, by omega, e⟩
theorem cover {m i j : Nat} (hm : Mask m) (hi : i ≤ m) (hj : j ≤ m) : ∃ s, s ≤ m ∧ f5 m s i = j := by
  obtain ⟨z, all⟩ := cover0 hm
  obtain ⟨a, ha, rfl⟩ := all i hi
  obtain ⟨b, hb, rfl⟩ := all j hj
  by_cases c : a ≤ b
  · exact ⟨b - a, by omega, by rw [← f5_add]; congr 1; omega⟩
  · refine ⟨b + (m + 1) - a, by omega, ?_⟩
    rw [← f5_add, show a + (b + (m + 1) - a) = (m + 1) + b from by omega, f5_add, z]
theorem reach {m i u j : Nat} (hm : Mask m) (hi : i ≤ m) (hu : u < 2 ^ 64) (hj : j ≤ m) : ∃ r, r ≤ m + 13 ∧ (runs m r i u).1 = j := by
  have p0 : (runs m 13 i u).2 = 0 := by
    rw [runs_perturb]
    exact Nat.div_eq_of_lt (Nat.lt_of_lt_of_le hu (by decide))
  obtain ⟨s, hs, e⟩ := cover hm (runs_small 13 i u hi) hj
  refine ⟨13 + s, by omega, ?_⟩
  rw [runs_add, p0, runs_f5, e]
theorem bits_lt (h : Int) : SetTable.bits h < 2 ^ 64 := by
  unfold SetTable.bits
  have a := Int.emod_nonneg h (show (2 ^ 64 : Int) ≠ 0 by decide)
  have b := Int.emod_lt_of_pos h (show (0 : Int) < 2 ^ 64 by decide)
  have c : ((h % 2 ^ 64).toNat : Int) = h % 2 ^ 64 := Int.toNat_of_nonneg a
  have d : ((2 ^ 64 : Nat) : Int) = (2 : Int) ^ 64 := by decide
  omega
theorem reach_at {m j : Nat} {h : Int} (hm : Mask m) (hj : j ≤ m) : ∃ n, n ≤ 10 * (m + 13) ∧ at' m h n = j := by
  obtain ⟨r, hr, e⟩ := reach (u := SetTable.bits h) hm (Nat.lt_succ_iff.mp (Nat.mod_lt (SetTable.bits h) (show 0 < m + 1 by omega))) (bits_lt h) hj
  obtain ⟨c, hc, e2⟩ := runs_at (m := m) r (SetTable.bits h % (m + 1)) (SetTable.bits h)
  refine ⟨c, by omega, ?_⟩
  unfold at' start
  rw [e2, e]; rfl
theorem least {P : Nat → Prop} : ∀ n, P n → ∃ k, k ≤ n ∧ P k ∧ ∀ i, i < k → ¬ P i := by
  intro n
  induction n using Nat.strongRecOn with
  | _ n ih =>
    intro h
    by_cases c : ∃ i, i < n ∧ P i
    · obtain ⟨i, hi, pi⟩ := c
      obtain ⟨k, hk, pk, al⟩ := ih i hi pi
      exact ⟨k, by omega, pk, al⟩
    · exact ⟨n, Nat.le_refl _, h, fun i hi pi => c ⟨i, hi, pi⟩⟩
theorem first_free {m : Nat} {O : Nat → Prop} (h : Int) (hm : Mask m) (he : ∃ j, j ≤ m ∧ ¬ O j) : ∃ N, N ≤ 10 * (m + 13) ∧ ¬ O (at' m h N) ∧ ∀ n, n < N → O (at' m h n) := by
  obtain ⟨j, hj, no⟩ := he
  obtain ⟨n, hn, e⟩ := reach_at (h := h) hm hj
  obtain ⟨k, hk, pk, al⟩ := least (P := fun n => ¬ O (at' m h n)) n (by rw [e]; exact no)
  exact ⟨k, by omega, pk, fun i hi => Classical.byContradiction fun c => al i hi c⟩
theorem at_le {m : Nat} {h : Int} : ∀ n, at' m h n ≤ m := by
  have key : ∀ n, (ad m n (start m h)).j + (ad m n (start m h)).more ≤ m := by
    have step : ∀ p : SetTable.Probe, p.j + p.more ≤ m → (adv m p).j + (adv m p).more ≤ m := fun p hp => by
      unfold adv
      split
      · dsimp only; omega
      · dsimp only
        have l : (SetTable.leap m p.i p.perturb).1 ≤ m := Nat.lt_succ_iff.mp (Nat.mod_lt _ (by omega))
        have := runEnd_le (m := m) (i := (SetTable.leap m p.i p.perturb).1)
        have := this.2.2 l
        omega
    intro n
    induction n with
    | zero =>
      show SetTable.bits h % (m + 1) + (SetTable.runEnd m (SetTable.bits h % (m + 1)) - SetTable.bits h % (m + 1)) ≤ m
      have l : SetTable.bits h % (m + 1) ≤ m := Nat.lt_succ_iff.mp (Nat.mod_lt _ (by omega))
      have := runEnd_le (m := m) (i := SetTable.bits h % (m + 1))
      have := this.2.2 l
      omega
    | succ n ih => rw [ad_succ]; exact step _ ih
  intro n
  have := key n
  unfold at'
  omega
end SmSet
set_option Elab.async false
set_option linter.all false
set_option maxRecDepth 100000
set_option maxHeartbeats 400000
namespace SmSet
open PySem
structure Tab (t : SetTable) (es : Array (Int × Value)) : Prop where
  mask : Mask t.mask
  nd : t.dummies = #[]
  so : t.place.toList.Pairwise (· < ·)
  sz : t.place.size = es.size
  small : ∀ j ∈ t.place.toList, j ≤ t.mask
  light : es.size * 5 < t.mask * 3
  way : ∀ i (h : i < es.size), ∃ n, t.place[i]? = some (at' t.mask es[i].1 n) ∧ ∀ n', n' < n → at' t.mask es[i].1 n' ∈ t.place.toList
theorem Tab.room {t : SetTable} {es : Array (Int × Value)} (T : Tab t es) : es.size ≤ t.mask := by have := T.light; omega
theorem Tab.fits {t : SetTable} {es : Array (Int × Value)} (T : Tab t es) : t.fits es.size = true := by
  unfold SetTable.fits SetTable.fill
  have := T.room
  rw [T.sz, T.nd]
  simp
  exact this
theorem Tab.odd {t : SetTable} {es : Array (Int × Value)} (T : Tab t es) : t.gaveWay = false := by
  unfold SetTable.gaveWay
  rcases T.mask with h | h | h | h | h | h <;> rw [h] <;> rfl
theorem as_long : ∀ (n : Nat) (l : List Nat), (∀ j, j < n → j ∈ l) → n ≤ l.length
  | 0, _, _ => Nat.zero_le _
  | n + 1, l, h => by
    have := as_long n (l.erase n) fun j hj => (List.mem_erase_of_ne (by omega)).mpr (h j (by omega))
    rw [List.length_erase_of_mem (h n (by omega))] at this
    have := List.length_pos_of_mem (h n (by omega))
    omega
theorem left_out {l : List Nat} {m : Nat} (h : l.length ≤ m) : ∃ j, j ≤ m ∧ j ∉ l := by
  refine Classical.byContradiction fun c => ?_
  have := as_long (m + 1) l fun j hj => Classical.byContradiction fun z => c ⟨j, by omega, z⟩
  omega
theorem Tab.left {t : SetTable} {es : Array (Int × Value)} (T : Tab t es) : ∃ j, j ≤ t.mask ∧ ¬ j ∈ t.place.toList := by
  have := left_out (l := t.place.toList) (m := t.mask) (by rw [Array.length_toList, T.sz]; exact T.room)
  exact this
theorem Tab.first {t : SetTable} {es : Array (Int × Value)} (T : Tab t es) (h : Int) : ∃ N, N ≤ 10 * (t.mask + 13) ∧ ¬ at' t.mask h N ∈ t.place.toList ∧ ∀ n, n < N → at' t.mask h n ∈ t.place.toList := first_free h T.mask T.left
theorem at_index {t : SetTable} {j : Nat} (h : j ∈ t.place.toList) : ∃ i : Nat, t.place[i]? = some j := by
  obtain ⟨i, hi, e⟩ := List.getElem_of_mem h
  exact ⟨i, by rw [← Array.getElem?_toList, List.getElem?_eq_getElem hi, e]⟩
theorem probe_go {t : SetTable} {es : Array (Int × Value)} (T : Tab t es) {hashAt : Nat → Int} {h : Int} {N : Nat} (hN : ¬ at' t.mask h N ∈ t.place.toList) (hall : ∀ n, n < N → at' t.mask h n ∈ t.place.toList) :
    ∀ (d k fuel : Nat), N - k = d → k ≤ N → d < fuel →
      (∃ n i, k ≤ n ∧ n < N ∧ t.place[i]? = some (at' t.mask h n) ∧ hashAt i = h ∧ (∀ n', k ≤ n' → n' < n → ∀ i', t.place[i']? = some (at' t.mask h n') → hashAt i' ≠ h) ∧ SetTable.probe.go t hashAt h fuel (ad t.mask k (start t.mask h)) = some (.candidate (at' t.mask h n) i (ad t.mask (n + 1) (start t.mask h)))) ∨
      ((∀ n', k ≤ n' → n' < N → ∀ i', t.place[i']? = some (at' t.mask h n') → hashAt i' ≠ h) ∧ SetTable.probe.go t hashAt h fuel (ad t.mask k (start t.mask h)) = some (.empty (at' t.mask h N) none))
  | d, k, 0, e, hk, hf => absurd hf (Nat.not_lt_zero _)
  | 0, k, fuel + 1, e, hk, hf => by
    have : k = N := by omega
    subst this
    refine .inr ⟨fun n' h1 h2 => absurd h1 (by omega), ?_⟩
    unfold SetTable.probe.go
    rw [show (ad t.mask k (start t.mask h)).j = at' t.mask h k from rfl, slot_empty T.nd hN]
    dsimp only
    rw [ad_dummy]
    rfl
  | d + 1, k, fuel + 1, e, hk, hf => by
    obtain ⟨i, hi⟩ := at_index (hall k (by omega))
    by_cases c : hashAt i = h
    · refine .inl ⟨k, i, Nat.le_refl _, by omega, hi, c, fun n' h1 h2 => absurd h1 (by omega), ?_⟩
      unfold SetTable.probe.go
      rw [show (ad t.mask k (start t.mask h)).j = at' t.mask h k from rfl, slot_live T.so hi]
      dsimp only
      rw [if_pos (by rw [c]; simp), advance_eq, ← ad_succ]
    · have step : SetTable.probe.go t hashAt h (fuel + 1) (ad t.mask k (start t.mask h)) = SetTable.probe.go t hashAt h fuel (ad t.mask (k + 1) (start t.mask h)) := by
        conv => lhs; unfold SetTable.probe.go
        rw [show (ad t.mask k (start t.mask h)).j = at' t.mask h k from rfl, slot_live T.so hi]
        dsimp only
        rw [if_neg (by simpa using c), advance_eq, ← ad_succ]
      have here : ∀ i', t.place[i']? = some (at' t.mask h k) → hashAt i' ≠ h := fun i' hi' => by
        have := (below_at T.so hi').symm.trans (below_at T.so hi)
        rw [this]; exact c
      rw [step]
      rcases probe_go T hN hall d (k + 1) fuel (by omega) (by omega) (by omega) with ⟨n, i2, a1, a2, a3, a4, a5, a6⟩ | ⟨a1, a2⟩
      · refine .inl ⟨n, i2, by omega, a2, a3, a4, fun n' h1 h2 i' hi' => ?_, a6⟩
        by_cases q : n' = k
        · subst q; exact here i' hi'
        · exact a5 n' (by omega) h2 i' hi'
      · refine .inr ⟨fun n' h1 h2 i' hi' => ?_, a2⟩
        by_cases q : n' = k
        · subst q; exact here i' hi'
        · exact a1 n' (by omega) h2 i' hi'
end SmSet
set_option Elab.async false
set_option linter.all false
set_option maxRecDepth 100000
set_option maxHeartbeats 400000
namespace SmSet
open PySem
section
variable {prog : Program} {w : World} {K : Type} [DecidableEq K] {knd : HeapKind prog w K} {A : Around} {E : Value → Shared → Prop} {s : Shared} {a : Addr}
def Keys (knd : HeapKind prog w K) (h : Heap) (es : Array (Int × Value)) (ks : Nat → K) : Prop := ∀ i (hi : i < es.size), ∃ b, es[i] = (knd.hash (ks i), .ref b) ∧ knd.is h (ks i) b
def Calm (knd : HeapKind prog w K) (A : Around) (s : Shared) : Prop := ∀ (k : K) (b : Addr), knd.is s.heap k b → ∀ (E : Value → Shared → Prop) (Q : Bool → Shared → Prop), Q false s → wpAny (model prog w) A (ofAClassStatement 8 (.ref b)) Q E s
theorem not_seen {k : K} {c : Addr} (hk : knd.is s.heap k c) (cl : Calm knd A s) : ∀ (ys : List Value), (∀ y ∈ ys, ∃ k b, y = .ref b ∧ knd.is s.heap k b) → ∀ {Q : Bool → Shared → Prop}, Q false s → wpAny (model prog w) A (searchCouldBeSeen (.ref c) ys) Q E s := by
  intro ys hy Q q
  unfold searchCouldBeSeen
  refine wpAny_bind ?_
  refine wpAny_forIn_list _ (fun rest r s' => r.1 = none ∧ s' = s ∧ ∀ y ∈ rest, ∃ k b, y = .ref b ∧ knd.is s.heap k b) _ ?_ ?_ _ _ ⟨rfl, rfl, hy⟩
  · rintro y rest r s' ⟨hr, rfl, hall⟩
    obtain ⟨k2, b, rfl, hb⟩ := hall _ List.mem_cons_self
    have next : ∀ u ∈ rest, ∃ k b, u = Value.ref b ∧ knd.is s'.heap k b := fun u hu => hall u (List.mem_cons_of_mem _ hu)
    dsimp only
    split
    · exact wpAny_pure ⟨rfl, rfl, next⟩
    · refine wpAny_bind (knd.quiet hk ?_)
      simp only [Bool.not_true, Bool.false_eq_true, if_false]
      refine wpAny_bind (knd.quiet hb ?_)
      simp only [Bool.not_true, Bool.false_eq_true, if_false]
      refine wpAny_bind (cl _ _ hk _ _ ?_)
      simp only [Bool.false_eq_true, if_false]
      refine wpAny_bind (cl _ _ hb _ _ ?_)
      simp only [Bool.false_eq_true, if_false]
      exact wpAny_pure ⟨rfl, rfl, next⟩
  · rintro ⟨r1, r2⟩ s' ⟨hr, rfl, _⟩
    simp only at hr
    subst hr
    exact wpAny_pure q
theorem search {o : Obj} {es : Array (Int × Value)} {ep : Nat} {t : SetTable} {ks : Nat → K} {kx : K} {c : Addr} {adding : Bool} {Q : SetFound → Shared → Prop} (hr : knd.room A) (ho : s.heap.get? a = some o) (hd : o.data = .set es ep t) (T : Tab t es) (ke : Keys knd s.heap es ks) (hx : knd.is s.heap kx c) (cl : Calm knd A s)
    (qt : ∀ r : Option Nat, (r = none → adding = true) → (∃ i, i < es.size ∧ ks i = kx) → Q (.there r) s) {N : Nat} (hN : ¬ at' t.mask (knd.hash kx) N ∈ t.place.toList) (hall : ∀ n, n < N → at' t.mask (knd.hash kx) n ∈ t.place.toList) (hNb : N ≤ 10 * (t.mask + 13))
    (qf : (∀ i, i < es.size → ks i ≠ kx) → Q (.free (at' t.mask (knd.hash kx) N) false) s) :
    ∀ (fuel k : Nat) (st : Option SetTable.Probe), N - k < fuel → k ≤ N → st.getD (t.probeStart (knd.hash kx)) = ad t.mask k (start t.mask (knd.hash kx)) → (∀ n', n' < k → ∀ i', t.place[i']? = some (at' t.mask (knd.hash kx) n') → ks i' ≠ kx) →
      wpAny (model prog w) A (setSearchFrom a (.ref c) (knd.hash kx) adding fuel st) Q E s
  | 0, k, st, hf, _, _, _ => absurd hf (Nat.not_lt_zero _)
  | fuel + 1, k, st, hf, hk, hst, prev => by
    unfold setSearchFrom
    refine wpAny_bind (wpAny_setState_of ho hd T.fits ?_)
    dsimp only
    rw [T.odd, hst]
    simp only [Bool.false_eq_true, if_false]
    unfold SetTable.probe
    rcases probe_go T hN hall (hashAt := fun i => ((es[i]?).map (·.1)).getD 0) _ k (10 * SetTable.turns t.mask) rfl hk (by unfold SetTable.turns; omega) with ⟨n, i, a1, a2, a3, a4, a5, a6⟩ | ⟨a1, a2⟩
    · generalize hp : SetTable.probe.go t _ (knd.hash kx) (10 * SetTable.turns t.mask) (ad t.mask k (start t.mask (knd.hash kx))) = pr
      have e := hp.symm.trans a6
      subst e
      have hi : i < es.size := by
        have := (Array.getElem?_eq_some_iff.mp a3).1
        rw [T.sz] at this; exact this
      obtain ⟨b, eb, hb⟩ := ke i hi
      have eg : es[i]? = some (knd.hash (ks i), .ref b) := by rw [← eb]; exact Array.getElem?_eq_getElem hi
      dsimp only
      rw [eg]
      dsimp only
      have sl := slot_live T.so a3
      have mem : t.sameMemory t.moves t.mask = some true := by simp [SetTable.sameMemory]
      have again := search (adding := adding) hr ho hd T ke hx cl qt hN hall hNb qf fuel (n + 1) (some (ad t.mask (n + 1) (start t.mask (knd.hash kx)))) (by omega) (by omega) rfl
      have more : ks i ≠ kx → ∀ n', n' < n + 1 → ∀ i', t.place[i']? = some (at' t.mask (knd.hash kx) n') → ks i' ≠ kx := fun ne n' hn i' hi' => by
        by_cases q : n' < k
        · exact prev n' q i' hi'
        by_cases q2 : n' = n
        · subst q2
          have := (below_at T.so hi').symm.trans (below_at T.so a3)
          rw [this]; exact ne
        · intro z
          have hl : i' < es.size := by
            have := (Array.getElem?_eq_some_iff.mp hi').1
            rw [T.sz] at this; exact this
          obtain ⟨b', eb', _⟩ := ke i' hl
          exact a5 n' (by omega) (by omega) i' hi' (by simp [eb', hl, z])
      have stored : ∀ y ∈ List.map (fun x => x.snd) (Array.filter (fun x => x.fst == knd.hash kx) es).toList, ∃ k b, y = Value.ref b ∧ knd.is s.heap k b := fun y hy => by
        obtain ⟨e, he, rfl⟩ := List.mem_map.mp hy
        have he : e ∈ es := by
          have : e ∈ es ∧ e.fst = knd.hash kx := by simpa using he
          exact this.1
        obtain ⟨j, hj, rfl⟩ := Array.getElem_of_mem he
        obtain ⟨b', eb', hb'⟩ := ke j hj
        exact ⟨_, b', by rw [eb'], hb'⟩
      split
      · refine wpAny_bind (not_seen hx cl _ stored ?_)
        simp only [Bool.false_eq_true, if_false]
        refine wpAny_bind (wpAny_holding (knd.eqBool hr hb hx ?_))
        refine wpAny_bind (wpAny_setState_of ho hd T.fits ?_)
        dsimp only
        rw [mem]
        dsimp only
        rw [if_pos (show (true = true) from rfl), sl]
        dsimp only
        rw [eg]
        dsimp only
        by_cases q : ks i = kx
        · rw [decide_eq_true q]
          cases adding with
          | true => exact wpAny_pure (qt _ (fun _ => rfl) ⟨i, hi, q⟩)
          | false =>
            simp only [Bool.false_and, Bool.false_eq_true, if_false]
            refine wpAny_bind (wpAny_isSame_ref_self ?_)
            exact wpAny_pure (qt _ (fun z => by cases z) ⟨i, hi, q⟩)
        · rw [decide_eq_false q]
          simp only [Bool.and_false, Bool.false_eq_true, if_false]
          refine wpAny_bind (wpAny_isSame_ref_self ?_)
          exact again (more q)
      · refine wpAny_bind (wpAny_holding (knd.eqBool hr hb hx ?_))
        refine wpAny_bind (wpAny_setState_of ho hd T.fits ?_)
        dsimp only
        rw [mem]
        dsimp only
        rw [if_pos (show (true = true) from rfl), sl]
        dsimp only
        rw [eg]
        dsimp only
        by_cases q : ks i = kx
        · rw [decide_eq_true q]
          cases adding with
          | true => exact wpAny_pure (qt _ (fun _ => rfl) ⟨i, hi, q⟩)
          | false =>
            simp only [Bool.false_and, Bool.false_eq_true, if_false]
            refine wpAny_bind (wpAny_isSame_ref_self ?_)
            exact wpAny_pure (qt _ (fun z => by cases z) ⟨i, hi, q⟩)
        · rw [decide_eq_false q]
          simp only [Bool.and_false, Bool.false_eq_true, if_false]
          refine wpAny_bind (wpAny_isSame_ref_self ?_)
          exact again (more q)
    · generalize hp : SetTable.probe.go t _ (knd.hash kx) (10 * SetTable.turns t.mask) (ad t.mask k (start t.mask (knd.hash kx))) = pr
      have e := hp.symm.trans a2
      subst e
      dsimp only
      refine wpAny_pure (qf fun i hi z => ?_)
      obtain ⟨m, hm, al⟩ := T.way i hi
      obtain ⟨b, eb, _⟩ := ke i hi
      rw [eb] at hm al
      dsimp only at hm al
      rw [z] at hm al
      have mN : m < N := Classical.byContradiction fun c => by
        by_cases q : N = m
        · subst q
          exact hN (by simpa using Array.mem_of_getElem? hm)
        · exact hN (al N (by omega))
      by_cases q : m < k
      · exact prev m q i hm z
      · refine a1 m (by omega) mN i hm ?_
        simp [eb, hi, z]
structure SetT (knd : HeapKind prog w K) (h : Heap) (a : Addr) (es : Array (Int × Value)) (ep : Nat) (t : SetTable) (ks : Nat → K) : Prop where
  obj : h.get? a = some { cls := .type "set", data := .set es ep t }
  tab : Tab t es
  keys : Keys knd h es ks
theorem find {es : Array (Int × Value)} {ep : Nat} {t : SetTable} {ks : Nat → K} {kx : K} {c : Addr} {Q : Option Nat → Shared → Prop} (hr : knd.room A) (S : SetT knd s.heap a es ep t ks) (hx : knd.is s.heap kx c) (cl : Calm knd A s)
    (qt : ∀ r : Option Nat, r.isSome = true → (∃ i, i < es.size ∧ ks i = kx) → Q r s) (qf : (∀ i, i < es.size → ks i ≠ kx) → Q none s) : wpAny (model prog w) A (setFind a (.ref c) (knd.hash kx)) Q E s := by
  obtain ⟨N, n1, n2, n3⟩ := S.tab.first (knd.hash kx)
  unfold setFind setFindIn
  refine wpAny_bind (wpAny_setState_of S.obj rfl S.tab.fits ?_)
  dsimp only
  rw [show byScan (.ref c) es = false from rfl]
  simp only [Bool.false_eq_true, if_false]
  refine wpAny_bind ?_
  unfold setSearch
  have lim : 10 * (t.mask + 13) < 100000 := by
    rcases S.tab.mask with h | h | h | h | h | h <;> rw [h] <;> decide
  refine search hr S.obj rfl S.tab S.keys hx cl (fun r h f => ?_) n2 n3 n1 (fun nf => ?_) 100000 0 none (by omega) (Nat.zero_le _) rfl (fun n' h => absurd h (Nat.not_lt_zero _))
  · refine wpAny_pure (qt r ?_ f)
    cases r with
    | none => cases h rfl
    | some i => rfl
  · exact wpAny_pure (qf nf)
theorem set_typeIs {es : Array (Int × Value)} {ep : Nat} {t : SetTable} {ks : Nat → K} (S : SetT knd s.heap a es ep t ks) : s.TypeIs (.ref a) "set" := ⟨_, S.obj, rfl⟩
theorem inSet {es : Array (Int × Value)} {ep : Nat} {t : SetTable} {ks : Nat → K} {kx : K} {c : Addr} {Q : Value → Shared → Prop} (hr : knd.room A.in1) (S : SetT knd s.heap a es ep t ks) (hx : knd.is s.heap kx c) (cl : ∀ B (s' : Shared), s'.heap = s.heap → Calm knd B s')
    (qt : (∃ i, i < es.size ∧ ks i = kx) → Q (.bool true) { s with toks := s.toks + knd.draws kx }) (qf : (∀ i, i < es.size → ks i ≠ kx) → Q (.bool false) { s with toks := s.toks + knd.draws kx }) : wpAny (model prog w) A (compareOp .In (.ref c) (.ref a)) Q E s := by
  have hT := set_typeIs S
  show wpAny _ _ (do return .bool (← contains (.ref a) (.ref c))) Q E s
  refine wpAny_bind ?_
  unfold contains
  try with_reducible refine wpAny_holding ?_
  refine wpAny_bind (wpAny_specialOf hT F.slot_set_contains.lookup ?_)
  show wpAny _ _ (if (some (Value.builtin "set.__contains__") == some Value.none) = true then _ else _) _ E s
  rw [if_neg (by rw [beq_builtin_none]; exact Bool.false_ne_true)]
  refine wpAny_bind (wpAny_callSpecialUnlessNone?_slot (name := Str.ofString "__contains__") hT F.slot_set_contains
    (wpAny_call_entry F.slot_set_contains hT entry_set_contains ?_ (F.args_set_contains_2 _ _)))
  unfold Builtin.«frozenset.__contains__» Builtin.Frozenset.oneOther
  simp only [List.isEmpty_nil, bind_assoc]
  unfold Builtin.Frozenset.addrOf Builtin.Frozenset.withSetAsKey setContains
  refine wpAny_bind (wpAny_pure ?_)
  try dsimp only
  refine wpAny_bind (wpAny_pure ?_)
  try dsimp only
  refine wpAny_bind (wpAny_tryCatch ?_)
  refine wpAny_holding ?_
  refine wpAny_bind (knd.pyHash hr hx ?_)
  refine wpAny_bind (find (s := { s with toks := s.toks + knd.draws kx }) hr ⟨S.obj, S.tab, S.keys⟩ hx (cl _ _ rfl) (fun r hs f => ?_) (fun nf => ?_))
  · refine wpAny_pure ?_
    show wpAny _ _ (ret (Value.bool r.isSome)) _ _ _
    rw [hs]
    exact wpAny_pure ⟨_, rfl, wpAny_truthy_bool (wpAny_pure (qt f))⟩
  · refine wpAny_pure ?_
    show wpAny _ _ (ret (Value.bool false)) _ _ _
    exact wpAny_pure ⟨_, rfl, wpAny_truthy_bool (wpAny_pure (qf nf))⟩
end
end SmSet
set_option Elab.async false
set_option linter.all false
set_option maxRecDepth 100000
set_option maxHeartbeats 400000
namespace SmSet
open PySem
theorem insert_get {α : Type} {l : List α} {p : Nat} {x : α} (hp : p ≤ l.length) (i : Nat) : (l.take p ++ x :: l.drop p)[i]? = if i < p then l[i]? else if i = p then some x else l[i - 1]? := by
  have lt : (l.take p).length = p := by rw [List.length_take]; omega
  by_cases c : i < p
  · rw [if_pos c, List.getElem?_append_left (by omega), List.getElem?_take_of_lt c]
  · rw [if_neg c, List.getElem?_append_right (by omega), lt]
    by_cases d : i = p
    · rw [if_pos d, d, Nat.sub_self]; rfl
    · rw [if_neg d, show i - p = (i - p - 1) + 1 from by omega, List.getElem?_cons_succ, List.getElem?_drop]
      congr 1; omega
theorem Tab.put {t : SetTable} {es : Array (Int × Value)} (T : Tab t es) {h : Int} {x : Value} {N : Nat} (hN : ¬ at' t.mask h N ∈ t.place.toList) (hall : ∀ n, n < N → at' t.mask h n ∈ t.place.toList) (pl : Bool) :
    (((es.size + 1) * 5 < t.mask * 3) → Tab { (t.put (at' t.mask h N)).1 with plain := pl } (SetTable.insertAt es (t.put (at' t.mask h N)).2 (h, x))) ∧ (t.put (at' t.mask h N)).1.dummies = #[] ∧ (t.put (at' t.mask h N)).1.mask = t.mask ∧ (t.put (at' t.mask h N)).1.place.size = es.size + 1 := by
  have e1 : (t.put (at' t.mask h N)).1 = { t with place := SetTable.insertAt t.place (SetTable.below t.place (at' t.mask h N)) (at' t.mask h N) } := by
    unfold SetTable.put
    dsimp only
    rw [T.nd]
    unfold SetTable.has
    simp
  have e2 : (t.put (at' t.mask h N)).2 = SetTable.below t.place (at' t.mask h N) := rfl
  rw [e1, e2]
  generalize hj : at' t.mask h N = j at *
  obtain ⟨b1, b2, b3⟩ := below_spec (j := j) T.so
  generalize hp : SetTable.below t.place j = p at *
  have lp : (SetTable.insertAt t.place p j).toList = t.place.toList.take p ++ j :: t.place.toList.drop p := SetTable.toList_insertAt ..
  have le : (SetTable.insertAt es p (h, x)).toList = es.toList.take p ++ (h, x) :: es.toList.drop p := SetTable.toList_insertAt ..
  have p1 : p ≤ t.place.toList.length := by rw [Array.length_toList]; exact b1
  have p2 : p ≤ es.toList.length := by rw [Array.length_toList, ← T.sz]; exact b1
  have s1 : (SetTable.insertAt t.place p j).size = es.size + 1 := by
    rw [← Array.length_toList, lp, List.length_append, List.length_cons, List.length_take, List.length_drop, Array.length_toList, ← T.sz]; omega
  have s2 : (SetTable.insertAt es p (h, x)).size = es.size + 1 := by
    rw [← Array.length_toList, le, List.length_append, List.length_cons, List.length_take, List.length_drop, Array.length_toList]
    have := T.sz
    omega
  have mem : ∀ j', j' ∈ (SetTable.insertAt t.place p j).toList ↔ j' = j ∨ j' ∈ t.place.toList := fun j' => by
    rw [lp, List.mem_append, List.mem_cons]
    constructor
    · rintro (h | h | h)
      · exact .inr (List.mem_of_mem_take h)
      · exact .inl h
      · exact .inr (List.mem_of_mem_drop h)
    · rintro (h | h)
      · exact .inr (.inl h)
      · rw [← List.take_append_drop p t.place.toList, List.mem_append] at h
        exact h.imp id .inr
  refine ⟨fun light => ⟨T.mask, T.nd, ?_, by rw [s2]; exact s1, fun j' hj' => ?_, by rw [s2]; exact light, fun i hi => ?_⟩, T.nd, rfl, s1⟩
  · show (SetTable.insertAt t.place p j).toList.Pairwise (· < ·)
    rw [lp, List.pairwise_append, List.pairwise_cons]
    refine ⟨T.so.sublist (List.take_sublist _ _), ⟨fun y hy => ?_, T.so.sublist (List.drop_sublist _ _)⟩, fun y hy z hz => ?_⟩
    · obtain ⟨i, hi, e⟩ := List.getElem_of_mem hy
      rw [List.getElem_drop] at e
      have hl : p + i < t.place.size := by rw [List.length_drop, Array.length_toList] at hi; omega
      have q := b3 (p + i) hl (by omega)
      rw [Array.getElem_toList] at e
      rw [e] at q
      have ne : y ≠ j := fun z => hN (by rw [← z]; exact List.mem_of_mem_drop hy)
      omega
    · obtain ⟨i, hi, e⟩ := List.getElem_of_mem hy
      rw [List.getElem_take] at e
      rw [List.length_take, Array.length_toList] at hi
      have hl : i < t.place.size := by omega
      have q := b2 i hl (by omega)
      rw [Array.getElem_toList] at e
      rw [e] at q
      rcases List.mem_cons.mp hz with z1 | z1
      · rw [z1]; exact q
      · obtain ⟨k, hk, ek⟩ := List.getElem_of_mem z1
        rw [List.getElem_drop] at ek
        have hl' : p + k < t.place.size := by rw [List.length_drop, Array.length_toList] at hk; omega
        have q2 := b3 (p + k) hl' (by omega)
        rw [Array.getElem_toList] at ek
        rw [ek] at q2
        omega
  · have hj' : j' ∈ (SetTable.insertAt t.place p j).toList := hj'
    rcases (mem j').mp hj' with z | z
    · rw [z, ← hj]; exact at_le N
    · exact T.small j' z
  · show ∃ n, (SetTable.insertAt t.place p j)[i]? = some (at' t.mask (SetTable.insertAt es p (h, x))[i].1 n) ∧ ∀ n', n' < n → at' t.mask (SetTable.insertAt es p (h, x))[i].1 n' ∈ (SetTable.insertAt t.place p j).toList
    have ge : (SetTable.insertAt es p (h, x))[i]? = some (SetTable.insertAt es p (h, x))[i] := Array.getElem?_eq_getElem hi
    generalize (SetTable.insertAt es p (h, x))[i] = e at ge ⊢
    rw [← Array.getElem?_toList, le, insert_get p2] at ge
    rw [← Array.getElem?_toList, lp, insert_get p1, ← lp]
    have old : ∀ k, es.toList[k]? = some e → ∃ n, t.place.toList[k]? = some (at' t.mask e.1 n) ∧ ∀ n', n' < n → at' t.mask e.1 n' ∈ (SetTable.insertAt t.place p j).toList := fun k hk => by
      rw [Array.getElem?_toList] at hk
      obtain ⟨hk', ek⟩ := Array.getElem?_eq_some_iff.mp hk
      obtain ⟨n, a1, a2⟩ := T.way k hk'
      rw [ek] at a1 a2
      exact ⟨n, by rw [Array.getElem?_toList]; exact a1, fun n' hn => (mem _).mpr (.inr (a2 n' hn))⟩
    by_cases c : i < p
    · rw [if_pos c] at ge ⊢; exact old i ge
    · rw [if_neg c] at ge ⊢
      by_cases d : i = p
      · rw [if_pos d] at ge ⊢
        cases ge
        exact ⟨N, by rw [hj], fun n' hn => (mem _).mpr (.inr (hall n' hn))⟩
      · rw [if_neg d] at ge ⊢; exact old (i - 1) ge
def occ (ow : Array (Option Nat)) (j : Nat) : Prop := (ow.getD j (some 0)).isNone = false
theorem free_spec {m : Nat} {ow : Array (Option Nat)} : ∀ (fuel i u : Nat), (∃ r, r < fuel ∧ ¬ occ ow (runs m r i u).1) →
    ∃ n, SetTable.layClean.free m ow fuel i u = some (ad m n (run m i u)).j ∧ ¬ occ ow (ad m n (run m i u)).j ∧ ∀ n', n' < n → occ ow (ad m n' (run m i u)).j
  | 0, i, u, ⟨r, h, _⟩ => absurd h (Nat.not_lt_zero _)
  | fuel + 1, i, u, ⟨r, h, no⟩ => by
    unfold SetTable.layClean.free
    cases e : (List.range (SetTable.runEnd m i + 1 - i)).find? fun k => (ow.getD (i + k) (some 0)).isNone with
    | some k =>
      dsimp only
      obtain ⟨hk, hlt, before⟩ := List.find?_range_eq_some.mp e
      have hlt : k < SetTable.runEnd m i + 1 - i := List.mem_range.mp hlt
      have inr : ∀ k', k' ≤ k → (ad m k' (run m i u)).j = i + k' := fun k' hk' => by rw [ad_in_run k' (by omega)]
      refine ⟨k, by rw [inr k (Nat.le_refl _)], ?_, fun n' hn => ?_⟩
      · rw [inr k (Nat.le_refl _)]
        unfold occ
        rw [hk]; simp
      · rw [inr n' (by omega)]
        unfold occ
        have := before n' hn
        simpa using this
    | none =>
      dsimp only
      have all : ∀ k, k < SetTable.runEnd m i + 1 - i → occ ow (i + k) := fun k hk => by
        have := List.find?_eq_none.mp e k (List.mem_range.mpr hk)
        unfold occ
        cases q : (ow.getD (i + k) (some 0)).isNone with
        | false => rfl
        | true => exact absurd q this
      have r0 : r ≠ 0 := fun z => by
        subst z
        refine no ?_
        exact all 0 (by have := (runEnd_le (m := m) (i := i)).2.1; omega)
      obtain ⟨r', rfl⟩ := Nat.exists_eq_succ_of_ne_zero r0
      obtain ⟨n, a1, a2, a3⟩ := free_spec fuel ((i * 5 + 1 + u / 32) % (m + 1)) (u / 32) ⟨r', by omega, no⟩
      have next : ∀ n', ad m (SetTable.runEnd m i - i + 1 + n') (run m i u) = ad m n' (run m ((i * 5 + 1 + u / 32) % (m + 1)) (u / 32)) := fun n' => by rw [ad_add, ad_next_run]
      refine ⟨SetTable.runEnd m i - i + 1 + n, ?_, ?_, fun n' hn => ?_⟩
      · rw [next]; exact a1
      · rw [next]; exact a2
      · by_cases c : n' < SetTable.runEnd m i - i + 1
        · rw [ad_in_run n' (by omega)]
          exact all n' (by have := (runEnd_le (m := m) (i := i)).2.1; omega)
        · rw [show n' = SetTable.runEnd m i - i + 1 + (n' - (SetTable.runEnd m i - i + 1)) from by omega, next]
          exact a3 _ (by omega)
structure Lay (m : Nat) (hs : List Int) (ow : Array (Option Nat)) : Prop where
  sz : ow.size = m + 1
  each : ∀ (k : Nat) (h : Int), hs[k]? = some h → ∃ n, ow[at' m h n]? = some (some k) ∧ ∀ n', n' < n → occ ow (at' m h n')
  low : ∀ (j k : Nat), ow[j]? = some (some k) → k < hs.length
  one : ∀ (j j' k : Nat), ow[j]? = some (some k) → ow[j']? = some (some k) → j = j'
theorem occ_iff {ow : Array (Option Nat)} {j : Nat} (h : j < ow.size) : occ ow j ↔ ∃ k, ow[j]? = some (some k) := by
  unfold occ
  rw [show ow.getD j (some 0) = ow[j] from by simp [Array.getD, h], Array.getElem?_eq_getElem h]
  cases ow[j] <;> simp
theorem Lay.left {m : Nat} {hs : List Int} {ow : Array (Option Nat)} (L : Lay m hs ow) (few : hs.length ≤ m) : ∃ j, j ≤ m ∧ ¬ occ ow j := by
  refine Classical.byContradiction fun c => ?_
  have all : ∀ j, j < m + 1 → ∃ k, ow[j]? = some (some k) := fun j hj => (occ_iff (by rw [L.sz]; exact hj)).mp (Classical.byContradiction fun z => c ⟨j, by omega, z⟩)
  have pick : ∀ k, ∃ j, k < hs.length → ow[j]? = some (some k) := fun k => by
    by_cases hk : k < hs.length
    · obtain ⟨n, a, _⟩ := L.each k hs[k] (List.getElem?_eq_getElem hk)
      exact ⟨_, fun _ => a⟩
    · exact ⟨0, fun z => absurd z hk⟩
  have := as_long (m + 1) ((List.range hs.length).map fun k => (pick k).choose) fun j hj => by
    obtain ⟨k, hk⟩ := all j hj
    have kl := L.low j k hk
    exact List.mem_map.mpr ⟨k, List.mem_range.mpr kl, L.one _ _ _ ((pick k).choose_spec kl) hk⟩
  rw [List.length_map, List.length_range] at this
  omega
theorem Lay.step {m : Nat} {hs : List Int} {ow : Array (Option Nat)} (hm : Mask m) (L : Lay m hs ow) (few : hs.length ≤ m) (h : Int) :
    ∃ j, SetTable.layClean.free m ow (SetTable.turns m) (SetTable.bits h % (m + 1)) (SetTable.bits h) = some j ∧ Lay m (hs ++ [h]) (ow.setIfInBounds j (some hs.length)) := by
  obtain ⟨j0, hj0, no⟩ := L.left few
  obtain ⟨r, hr, e⟩ := reach (u := SetTable.bits h) hm (Nat.lt_succ_iff.mp (Nat.mod_lt (SetTable.bits h) (show 0 < m + 1 by omega))) (bits_lt h) hj0
  obtain ⟨n, a1, a2, a3⟩ := free_spec (m := m) (ow := ow) (SetTable.turns m) (SetTable.bits h % (m + 1)) (SetTable.bits h) ⟨r, by unfold SetTable.turns; omega, by rw [e]; exact no⟩
  have ej : (ad m n (run m (SetTable.bits h % (m + 1)) (SetTable.bits h))).j = at' m h n := rfl
  rw [ej] at a1 a2
  have a3 : ∀ n', n' < n → occ ow (at' m h n') := a3
  have jl : at' m h n < ow.size := by rw [L.sz]; exact Nat.lt_succ_iff.mpr (at_le n)
  have get : ∀ j, (ow.setIfInBounds (at' m h n) (some hs.length))[j]? = if at' m h n = j then some (some hs.length) else ow[j]? := fun j => by
    rw [Array.getElem?_setIfInBounds]
    by_cases c : at' m h n = j
    · rw [if_pos c, if_pos c, if_pos jl]
    · rw [if_neg c, if_neg c]
  have keep : ∀ j, occ ow j → j < ow.size → occ (ow.setIfInBounds (at' m h n) (some hs.length)) j := fun j oj hj => by
    rw [occ_iff (by rw [Array.size_setIfInBounds]; exact hj), get]
    by_cases c : at' m h n = j
    · exact ⟨_, by rw [if_pos c]⟩
    · rw [if_neg c]; exact (occ_iff hj).mp oj
  have free : ∀ k, ow[at' m h n]? ≠ some (some k) := fun k z => a2 ((occ_iff jl).mpr ⟨k, z⟩)
  refine ⟨_, a1, by rw [Array.size_setIfInBounds]; exact L.sz, fun k x hx => ?_, fun j k hj => ?_, fun j j' k h1 h2 => ?_⟩
  · by_cases c : k < hs.length
    · rw [List.getElem?_append_left c] at hx
      obtain ⟨n2, b1, b2⟩ := L.each k x hx
      refine ⟨n2, ?_, fun n' hn => keep _ (b2 n' hn) (by rw [L.sz]; exact Nat.lt_succ_iff.mpr (at_le n'))⟩
      rw [get, if_neg fun z => free k (by rw [z]; exact b1)]
      exact b1
    · rw [List.getElem?_append_right (by omega)] at hx
      have : k - hs.length = 0 := by
        have := (List.getElem?_eq_some_iff.mp hx).1
        simp at this; omega
      rw [this] at hx
      cases hx
      have : k = hs.length := by omega
      subst this
      exact ⟨n, by rw [get, if_pos rfl], fun n' hn => keep _ (a3 n' hn) (by rw [L.sz]; exact Nat.lt_succ_iff.mpr (at_le n'))⟩
  · rw [get] at hj
    rw [List.length_append, List.length_singleton]
    split at hj
    · cases hj; omega
    · have := L.low j k hj; omega
  · rw [get] at h1 h2
    split at h1 <;> split at h2
    · rename_i x y; rw [← x, ← y]
    · cases h1; have := L.low _ _ h2; omega
    · cases h2; have := L.low _ _ h1; omega
    · exact L.one _ _ _ h1 h2
theorem lay_fold {m : Nat} (hm : Mask m) : ∀ (l hs : List Int) (ow : Array (Option Nat)), Lay m hs ow → hs.length + l.length ≤ m + 1 →
    ∃ ow', l.foldl (fun (acc : Option (Array (Option Nat) × Nat)) h => do
      let (owner, k) ← acc
      let j ← SetTable.layClean.free m owner (SetTable.turns m) (SetTable.bits h % (m + 1)) (SetTable.bits h)
      pure (owner.setIfInBounds j (some k), k + 1)) (some (ow, hs.length)) = some (ow', hs.length + l.length) ∧ Lay m (hs ++ l) ow'
  | [], hs, ow, L, _ => ⟨ow, rfl, by rw [List.append_nil]; exact L⟩
  | h :: l, hs, ow, L, few => by
    obtain ⟨j, e, L'⟩ := L.step hm (by rw [List.length_cons] at few; omega) h
    have few' : (hs ++ [h]).length + l.length ≤ m + 1 := by rw [List.length_append, List.length_singleton]; rw [List.length_cons] at few; omega
    obtain ⟨ow', e2, L2⟩ := lay_fold hm l (hs ++ [h]) _ L' few'
    refine ⟨ow', ?_, by rw [List.append_assoc] at L2; exact L2⟩
    rw [List.foldl_cons]
    show l.foldl _ ((SetTable.layClean.free m ow (SetTable.turns m) (SetTable.bits h % (m + 1)) (SetTable.bits h)).bind fun j => some (ow.setIfInBounds j (some hs.length), hs.length + 1)) = _
    rw [e]
    rw [List.length_append, List.length_singleton] at e2
    rw [List.length_cons]
    rw [show hs.length + (l.length + 1) = hs.length + 1 + l.length from by omega]
    exact e2
theorem lay_clean {m : Nat} (hm : Mask m) {hashes : Array Int} (few : hashes.size ≤ m + 1) : ∃ ow, SetTable.layClean m hashes = some ow ∧ Lay m hashes.toList ow := by
  have L0 : Lay m [] (Array.replicate (m + 1) none) := ⟨by simp, fun k h e => (by cases e), (fun j k e => by rw [Array.getElem?_replicate] at e; split at e <;> cases e), (fun j j' k e => by rw [Array.getElem?_replicate] at e; split at e <;> cases e)⟩
  obtain ⟨ow, e, L⟩ := lay_fold hm hashes.toList [] _ L0 (by rw [List.length_nil, Array.length_toList]; omega)
  refine ⟨ow, ?_, by simpa using L⟩
  unfold SetTable.layClean
  rw [← Array.foldl_toList]
  have := congrArg (Option.map (·.1)) e
  exact this
theorem perm_of {l l' : List Nat} (h : l.Nodup) (h' : l'.Nodup) (e : ∀ x, x ∈ l ↔ x ∈ l') : l.Perm l' := by
  rw [List.perm_iff_count]
  intro a
  rw [h.count, h'.count]
  by_cases c : a ∈ l
  · rw [if_pos c, if_pos ((e a).mp c)]
  · rw [if_neg c, if_neg fun z => c ((e a).mpr z)]
theorem fm_some {α β : Type} {f : α → Option β} {g : α → β} : ∀ {l : List α}, (∀ x ∈ l, f x = some (g x)) → l.filterMap f = l.map g
  | [], _ => rfl
  | x :: l, h => by
    rw [List.filterMap_cons_some (h x List.mem_cons_self), List.map_cons, fm_some fun y hy => h y (List.mem_cons_of_mem _ hy)]
theorem fm_pair {f : Nat → Option Nat} : ∀ (l : List Nat), (l.filterMap fun j => (f j).map (j, ·)).map (·.1) = l.filter fun j => (f j).isSome
  | [] => rfl
  | x :: l => by
    cases e : f x with
    | none => rw [List.filterMap_cons_none (by rw [e]; rfl), List.filter_cons_of_neg (by rw [e]; simp), fm_pair l]
    | some k => rw [List.filterMap_cons_some (b := (x, k)) (by rw [e]; rfl), List.filter_cons_of_pos (by rw [e]; rfl), List.map_cons, fm_pair l]
theorem relaid_spec {t : SetTable} {es : Array (Int × Value)} {wanted m : Nat} (hw : SetTable.sizeAbove wanted - 1 = m) (hm : Mask m) (light : es.size * 5 < m * 3) :
    ∃ t' order, t.relaid (es.map (·.1)) wanted = some (t', order) ∧ (order.filterMap (es[·]?)).toList.Perm es.toList ∧ Tab t' (order.filterMap (es[·]?)) := by
  obtain ⟨ow, e, L⟩ := lay_clean (hashes := es.map (·.1)) hm (by rw [Array.size_map]; omega)
  have lh : (es.map (·.1)).toList.length = es.size := by rw [Array.length_toList, Array.size_map]
  have hh : ∀ (k : Nat) (x : Int × Value), es[k]? = some x → (es.map (·.1)).toList[k]? = some x.1 := fun k x hx => by rw [Array.getElem?_toList, Array.getElem?_map, hx]; rfl
  let lv := (List.range (m + 1)).filterMap fun j => (ow.getD j none).map (j, ·)
  have e2 : t.relaid (es.map (·.1)) wanted = some ({ mask := m, place := (lv.map (·.1)).toArray, dummies := #[], finger := t.finger, led := t.led, moves := t.movedTo m, plain := t.plain }, (lv.map (·.2)).toArray) := by
    unfold SetTable.relaid SetTable.laid
    rw [hw, e]
    rfl
  have f1 : lv.map (·.1) = (List.range (m + 1)).filter fun j => (ow.getD j none).isSome := fm_pair _
  have f2 : ∀ p ∈ lv, ow[p.1]? = some (some p.2) ∧ p.1 ≤ m := fun p hp => by
    obtain ⟨j, hj, q⟩ := List.mem_filterMap.mp hp
    have hj : j < m + 1 := List.mem_range.mp hj
    have hs : j < ow.size := by rw [L.sz]; exact hj
    rw [show ow.getD j none = ow[j] from by simp [Array.getD, hs]] at q
    cases eo : ow[j] with
    | none => rw [eo] at q; cases q
    | some k => rw [eo] at q; cases q; exact ⟨by rw [Array.getElem?_eq_getElem hs, eo], by show j ≤ m; omega⟩
  have f3 : ∀ j k, ow[j]? = some (some k) → (j, k) ∈ lv := fun j k h => by
    obtain ⟨hs, eo⟩ := Array.getElem?_eq_some_iff.mp h
    refine List.mem_filterMap.mpr ⟨j, List.mem_range.mpr (by rw [L.sz] at hs; exact hs), ?_⟩
    rw [show ow.getD j none = ow[j] from by simp [Array.getD, hs], eo]; rfl
  have so1 : (lv.map (·.1)).Pairwise (· < ·) := by rw [f1]; exact List.pairwise_lt_range.filter _
  have so2 : lv.Pairwise fun a b => a.1 < b.1 := List.pairwise_map.mp so1
  have nd : (lv.map (·.2)).Nodup := by
    refine List.pairwise_map.mpr (so2.imp_of_mem fun {a b} ha hb h z => ?_)
    have := L.one _ _ _ (f2 a ha).1 (by rw [z]; exact (f2 b hb).1)
    omega
  have kl : ∀ p ∈ lv, p.2 < es.size := fun p hp => by have := L.low _ _ (f2 p hp).1; rw [lh] at this; exact this
  have pm : (lv.map (·.2)).Perm (List.range es.size) := perm_of nd List.nodup_range fun k => by
    constructor
    · intro h
      obtain ⟨p, hp, rfl⟩ := List.mem_map.mp h
      exact List.mem_range.mpr (kl p hp)
    · intro h
      have hk : k < es.size := List.mem_range.mp h
      obtain ⟨n, a, _⟩ := L.each k es[k].1 (hh k _ (Array.getElem?_eq_getElem hk))
      exact List.mem_map.mpr ⟨_, f3 _ _ a, rfl⟩
  let g : Nat → Int × Value := fun k => (es[k]?).getD (0, Value.none)
  have gk : ∀ k, k < es.size → es[k]? = some (g k) := fun k hk => by show es[k]? = some ((es[k]?).getD _); rw [Array.getElem?_eq_getElem hk]; rfl
  have e3 : ((lv.map (·.2)).toArray.filterMap (es[·]?)).toList = lv.map fun p => g p.2 := by
    rw [Array.toList_filterMap, List.filterMap_map]
    exact fm_some fun p hp => gk p.2 (kl p hp)
  have e4 : es.toList = (List.range es.size).map g := by
    have := filterMap_getElem?_range es
    rw [fm_some (g := g) fun k hk => gk k (List.mem_range.mp hk)] at this
    exact this.symm
  refine ⟨_, _, e2, ?_, ?_⟩
  · rw [e3, e4, show (fun p : Nat × Nat => g p.2) = g ∘ (·.2) from rfl, ← List.map_map]
    exact pm.map g
  · have sz : ((lv.map (·.2)).toArray.filterMap (es[·]?)).size = lv.length := by rw [← Array.length_toList, e3, List.length_map]
    have ll : lv.length = es.size := by have := pm.length_eq; rw [List.length_map, List.length_range] at this; exact this
    refine ⟨hm, rfl, by simpa using so1, by rw [sz]; simp, fun j hj => ?_, by rw [sz, ll]; exact light, fun i hi => ?_⟩
    · have hj : j ∈ lv.map (·.1) := by simpa using hj
      obtain ⟨p, hp, rfl⟩ := List.mem_map.mp hj
      exact (f2 p hp).2
    · have ge : ((lv.map (·.2)).toArray.filterMap (es[·]?))[i]? = some ((lv.map (·.2)).toArray.filterMap (es[·]?))[i] := Array.getElem?_eq_getElem hi
      generalize ((lv.map (·.2)).toArray.filterMap (es[·]?))[i] = x at ge ⊢
      rw [← Array.getElem?_toList, e3, List.getElem?_map] at ge
      cases ep : lv[i]? with
      | none => rw [ep] at ge; cases ge
      | some p =>
        rw [ep] at ge
        have ge : g p.2 = x := Option.some.inj ge
        have hp := List.mem_of_getElem? ep
        have hx := gk p.2 (kl p hp)
        rw [ge] at hx
        obtain ⟨n, a1, a2⟩ := L.each p.2 x.1 (hh p.2 x hx)
        have ej := L.one _ _ _ a1 (f2 p hp).1
        refine ⟨n, ?_, fun n' hn => ?_⟩
        · show ((lv.map (·.1)).toArray)[i]? = some (at' m x.1 n)
          rw [List.getElem?_toArray, List.getElem?_map, ep, ej]; rfl
        · show at' m x.1 n' ∈ ((lv.map (·.1)).toArray).toList
          obtain ⟨k, hk⟩ := (occ_iff (by rw [L.sz]; exact Nat.lt_succ_iff.mpr (at_le n'))).mp (a2 n' hn)
          simpa using ⟨k, f3 _ _ hk⟩
end SmSet
set_option Elab.async false
set_option linter.all false
set_option maxRecDepth 100000
set_option maxHeartbeats 400000
namespace SmSet
open PySem
section
variable {prog : Program} {w : World} {K : Type} [DecidableEq K] {knd : HeapKind prog w K} {A : Around} {E : Value → Shared → Prop} {s : Shared} {a : Addr}
def Hashy (knd : HeapKind prog w K) : Prop := ∀ (A : Around) (s : Shared) (k : K) (b : Addr), knd.is s.heap k b → ∀ (E : Value → Shared → Prop) (Q : Bool → Shared → Prop), (∀ v, Q v s) → wpAny (model prog w) A (hashByValue 8 (.ref b)) Q E s
def SetObj (es : Array (Int × Value)) (ep : Nat) (t : SetTable) : Obj := { cls := .type "set", data := .set es ep t }
theorem store {es es' : Array (Int × Value)} {ep : Nat} {t t' : SetTable} {Q : Unit → Shared → Prop} (ho : s.heap.get? a = some (SetObj es ep t)) (hz : es'.size ≤ sizeLine)
    (h : ∀ h', Heap.SameBut a s.heap h' → h'.get? a = some (SetObj es' (ep + 1) t') → Q () { s with heap := h' }) : wpAny (model prog w) A (storeSet a es' t') Q E s := by
  refine wpAny_storeSet_of ho rfl (h _ (Heap.SameBut.update s.heap a (Obj.putSet es' t')) ?_) hz
  have := Heap.get?_update_self (Obj.putSet es' t') ho (by rw [putSet_of es' t' rfl]; rfl)
  rw [putSet_of es' t' rfl] at this; exact this
theorem grown_mask {n m : Nat} (hm : Mask m) (lt : (n - 1) * 5 < m * 3) (n1 : 1 ≤ n) (full : n * 5 ≥ m * 3) (few : n ≤ 4000) : Mask (SetTable.sizeAbove (SetTable.grown n) - 1) ∧ n * 5 < (SetTable.sizeAbove (SetTable.grown n) - 1) * 3 ∧ SetTable.sizeAbove (SetTable.grown n) ≤ 8192 := by
  rcases hm with rfl | rfl | rfl | rfl | rfl | rfl
  · have : n = 5 := by omega
    subst this
    exact ⟨.inr (.inl (by decide +kernel)), by decide +kernel, by decide +kernel⟩
  · have : n = 19 := by omega
    subst this
    exact ⟨.inr (.inr (.inl (by decide +kernel))), by decide +kernel, by decide +kernel⟩
  · have : n = 77 := by omega
    subst this
    exact ⟨.inr (.inr (.inr (.inl (by decide +kernel)))), by decide +kernel, by decide +kernel⟩
  · have : n = 307 := by omega
    subst this
    exact ⟨.inr (.inr (.inr (.inr (.inl (by decide +kernel))))), by decide +kernel, by decide +kernel⟩
  · have : n = 1229 := by omega
    subst this
    exact ⟨.inr (.inr (.inr (.inr (.inr (by decide +kernel))))), by decide +kernel, by decide +kernel⟩
  · omega
theorem add {es : Array (Int × Value)} {ep : Nat} {t : SetTable} {ks : Nat → K} {kx : K} {c : Addr} {Q : Bool → Shared → Prop} (hr : knd.room A) (S : SetT knd s.heap a es ep t ks) (hx : knd.is s.heap kx c) (cl : Calm knd A s) (hb : Hashy knd) (few : es.size < 4000)
    (qt : (∃ i, i < es.size ∧ ks i = kx) → Q false s)
    (qf : ∀ (h' : Heap) (es' : Array (Int × Value)) (ep' : Nat) (t' : SetTable), (∀ i, i < es.size → ks i ≠ kx) → Heap.SameBut a s.heap h' → h'.get? a = some (SetObj es' ep' t') → Tab t' es' → es'.toList.Perm (es.toList ++ [(knd.hash kx, .ref c)]) → Q true { s with heap := h' }) :
    wpAny (model prog w) A (setAddHashed a (.ref c) (knd.hash kx)) Q E s := by
  obtain ⟨N, n1, n2, n3⟩ := S.tab.first (knd.hash kx)
  have line : 10000 ≤ sizeLine := by rw [sizeLine_eq]; decide
  unfold setAddHashed setAddHashedIn
  refine wpAny_holding (wpAny_bind (wpAny_setState_of S.obj rfl S.tab.fits ?_))
  dsimp only
  rw [show byScan (.ref c) es = false from rfl]
  simp only [Bool.false_eq_true, if_false]
  refine wpAny_bind ?_
  unfold setSearch
  have lim : 10 * (t.mask + 13) < 100000 := by
    rcases S.tab.mask with h | h | h | h | h | h <;> rw [h] <;> decide
  refine search hr S.obj rfl S.tab S.keys hx cl (fun r h f => ?_) n2 n3 n1 (fun nf => ?_) 100000 0 none (by omega) (Nat.zero_le _) rfl (fun n' h => absurd h (Nat.not_lt_zero _))
  · exact wpAny_pure (qt f)
  · dsimp only
    refine wpAny_bind (wpAny_setState_of S.obj rfl S.tab.fits ?_)
    dsimp only
    have m7 : 7 ≤ t.mask := by rcases S.tab.mask with h | h | h | h | h | h <;> omega
    have lt := S.tab.light
    have e200 : SetTable.tooFull = fun t => decide (t.fill * 5 ≥ t.mask * 3) := rfl
    have tail : ∀ tt, (∃ pl, tt = { (t.put (at' t.mask (knd.hash kx) N)).1 with plain := pl }) → wpAny (model prog w) A (do
        storeSet a (SetTable.insertAt es (t.put (at' t.mask (knd.hash kx) N)).2 (knd.hash kx, Value.ref c)) tt
        if (!false && tt.tooFull) = true then do
          setRelay a (SetTable.grown (es.size + 1))
          pure true
        else pure true) Q E s := by
      rintro tt ⟨pl, rfl⟩
      obtain ⟨pt, pd, pm, ps⟩ := S.tab.put (x := Value.ref c) n2 n3 pl
      have pp := SetTable.insertAt_perm es (t.put (at' t.mask (knd.hash kx) N)).2 (knd.hash kx, Value.ref c)
      rw [Array.toList_push] at pp
      have sz : (SetTable.insertAt es (t.put (at' t.mask (knd.hash kx) N)).2 (knd.hash kx, Value.ref c)).size = es.size + 1 := by
        have := pp.length_eq
        rw [Array.length_toList, List.length_append, Array.length_toList, List.length_singleton] at this; exact this
      generalize (t.put (at' t.mask (knd.hash kx) N)).1 = T1 at pt pd pm ps ⊢
      generalize SetTable.insertAt es (t.put (at' t.mask (knd.hash kx) N)).2 (knd.hash kx, Value.ref c) = es1 at pt pp sz ⊢
      have fit : ({ T1 with plain := pl } : SetTable).fits es1.size = true := by
        unfold SetTable.fits SetTable.fill
        dsimp only
        rw [ps, pd, sz, pm]
        simp
        omega
      refine wpAny_bind (store S.obj (by omega) fun h' sb go => ?_)
      have full : ({ T1 with plain := pl } : SetTable).tooFull = decide ((es.size + 1) * 5 ≥ t.mask * 3) := by
        unfold SetTable.tooFull SetTable.fill
        dsimp only
        rw [ps, pd, pm]; rfl
      rw [full]
      by_cases c : (es.size + 1) * 5 ≥ t.mask * 3
      · rw [decide_eq_true c]
        simp only [Bool.not_false, Bool.and_self, if_true]
        obtain ⟨gm, gl, gz⟩ := grown_mask S.tab.mask (by rw [Nat.add_sub_cancel]; exact lt) (by omega) c (by omega)
        obtain ⟨t2, order, er, pr, T2⟩ := relaid_spec (t := { T1 with plain := pl }) (es := es1) rfl gm (by rw [sz]; exact gl)
        refine wpAny_bind ?_
        unfold setRelay
        refine wpAny_bind (wpAny_setState_of (s := { s with heap := h' }) go rfl fit ?_)
        dsimp only
        rw [if_neg (by omega)]
        refine wpAny_bind ?_
        rw [er]
        show wpAny (model prog w) A (if ((order.filterMap (es1[·]?)).size != es1.size) = true then _ else _) _ _ _
        have s2 : (order.filterMap (es1[·]?)).size = es1.size := by have := pr.length_eq; rw [Array.length_toList, Array.length_toList] at this; exact this
        rw [if_neg (by rw [s2]; simp)]
        refine wpAny_pure ?_
        dsimp only
        refine store (s := { s with heap := h' }) go (by rw [s2]; omega) fun h2 sb2 go2 => ?_
        exact wpAny_pure (qf h2 _ _ _ nf (sb.trans sb2) go2 T2 (pr.trans pp))
      · rw [decide_eq_false c]
        simp only [Bool.not_false, Bool.and_false, Bool.false_eq_true, if_false]
        exact wpAny_pure (qf h' _ _ _ nf sb go (pt (by omega)) pp)
    split
    · refine wpAny_bind (hb _ _ _ _ hx _ _ fun v => tail _ ?_)
      cases v with
      | true => exact ⟨(t.put (at' t.mask (knd.hash kx) N)).1.plain, rfl⟩
      | false => exact ⟨false, rfl⟩
    · refine wpAny_bind (wpAny_pure (tail _ ⟨(t.put (at' t.mask (knd.hash kx) N)).1.plain, rfl⟩))
end
end SmSet
set_option Elab.async false
set_option linter.all false
set_option maxRecDepth 100000
set_option maxHeartbeats 400000
namespace SmSet
open PySem
section
variable {prog : Program} {w : World} {K : Type} [DecidableEq K] {knd : HeapKind prog w K} {A : Around} {E : Value → Shared → Prop} {s : Shared} {a : Addr}
theorem callAdd {es : Array (Int × Value)} {ep : Nat} {t : SetTable} {ks : Nat → K} {kx : K} {c : Addr} {Q : Value → Shared → Prop} (hr : knd.room A.in1) (S : SetT knd s.heap a es ep t ks) (hx : knd.is s.heap kx c) (cl : ∀ B (s' : Shared), s'.heap = s.heap → Calm knd B s') (hb : Hashy knd) (few : es.size < 4000)
    (qt : (∃ i, i < es.size ∧ ks i = kx) → Q .none { s with toks := s.toks + knd.draws kx })
    (qf : ∀ (h' : Heap) (es' : Array (Int × Value)) (ep' : Nat) (t' : SetTable), (∀ i, i < es.size → ks i ≠ kx) → Heap.SameBut a s.heap h' → h'.get? a = some (SetObj es' ep' t') → Tab t' es' → es'.toList.Perm (es.toList ++ [(knd.hash kx, .ref c)]) → Q .none { s with heap := h', toks := s.toks + knd.draws kx }) :
    wpAny (model prog w) A (call (.builtin "set.add") [.ref a, .ref c]) Q E s := by
  refine wpAny_call_entry F.slot_set_add (set_typeIs S) F.entry_set_add ?_ (F.args_set_add_2 _ _)
  unfold Builtin.«set.add» Builtin.Frozenset.oneOther
  simp only [List.isEmpty_nil, bind_assoc]
  unfold Builtin.Frozenset.addrOf setAdd
  refine wpAny_bind (wpAny_pure ?_)
  try dsimp only
  refine wpAny_bind (wpAny_pure ?_)
  try dsimp only
  refine wpAny_bind ?_
  refine wpAny_holding ?_
  refine wpAny_bind (knd.pyHash hr hx ?_)
  refine add (s := { s with toks := s.toks + knd.draws kx }) hr ⟨S.obj, S.tab, S.keys⟩ hx (cl _ _ rfl) hb few (fun f => ?_) (fun h' es' ep' t' nf sb go T' pm => ?_)
  · show wpAny _ _ (ret Value.none) _ _ _
    exact wpAny_pure ⟨_, rfl, qt f⟩
  · show wpAny _ _ (ret Value.none) _ _ _
    exact wpAny_pure ⟨_, rfl, qf h' es' ep' t' nf sb go T' pm⟩
end
section
variable {prog : Program} {w : World} {K : Type} [DecidableEq K] {knd : KeyKind prog w K}
theorem plain_stm {v : Value} (h : carriedByValue v = true) (n : Nat) : ofAClassStatement n v = pure false := by
  cases v with
  | ref a => cases h
  | _ => cases n <;> rfl
theorem tup_calm {A : Around} {s : Shared} : Calm (tupleKind knd) A s := by
  intro k b hk E Q q
  have hT : s.TypeIs (.ref b) "tuple" := IsTupleKey.typeIs hk
  obtain ⟨o, items, n, ho, hc, hd, hi⟩ := hk
  unfold ofAClassStatement
  refine wpAny_bind (wpAny_typeOf hT ?_)
  dsimp only
  rw [if_pos (by decide)]
  refine wpAny_bind (wpAny_pure ?_)
  simp only [Bool.not_true, Bool.false_eq_true, if_false]
  refine wpAny_bind (wpAny_seqItems ho hd ?_)
  dsimp only
  refine wpAny_bind ?_
  rw [← Array.forIn_toList]
  refine wpAny_forIn_list _ (fun rest r s' => r.1 = none ∧ s' = s ∧ ∀ v ∈ rest, carriedByValue v = true) _ ?_ ?_ _ _ ⟨rfl, rfl, hi.byValue⟩
  · rintro v rest r s' ⟨hr, rfl, hall⟩
    rw [plain_stm (hall v List.mem_cons_self)]
    refine wpAny_bind (wpAny_pure ?_)
    simp only [Bool.false_eq_true, if_false]
    exact wpAny_pure ⟨rfl, rfl, fun u hu => hall u (List.mem_cons_of_mem _ hu)⟩
  · rintro ⟨r1, r2⟩ s' ⟨hr, rfl, _⟩
    simp only at hr
    subst hr
    exact wpAny_pure q
theorem plain_hash {v : Value} (h : carriedByValue v = true) (n : Nat) : ∃ c, hashByValue n v = pure c := by
  cases v with
  | ref a => cases h
  | _ => cases n <;> exact ⟨_, rfl⟩
theorem tup_hashy : Hashy (tupleKind knd) := by
  intro A s k b hk E Q q
  have hT : s.TypeIs (.ref b) "tuple" := IsTupleKey.typeIs hk
  obtain ⟨o, items, n, ho, hc, hd, hi⟩ := hk
  unfold hashByValue
  refine wpAny_bind (wpAny_specialOf hT F.slot_tuple_hash.lookup ?_)
  dsimp only
  refine wpAny_bind (wpAny_seqItems ho hd ?_)
  dsimp only [Option.getD]
  refine wpAny_bind ?_
  rw [← Array.forIn_toList]
  refine wpAny_forIn_list _ (fun rest r s' => r.1 = none ∧ s' = s ∧ ∀ v ∈ rest, carriedByValue v = true) _ ?_ ?_ _ _ ⟨rfl, rfl, hi.byValue⟩
  · rintro v rest r s' ⟨hr, rfl, hall⟩
    obtain ⟨c, hc'⟩ := plain_hash (hall v List.mem_cons_self) 7
    rw [hc']
    refine wpAny_bind (wpAny_pure ?_)
    cases c with
    | true =>
      simp only [Bool.not_true, Bool.false_eq_true, if_false]
      exact wpAny_pure ⟨rfl, rfl, fun u hu => hall u (List.mem_cons_of_mem _ hu)⟩
    | false =>
      simp only [Bool.not_false, if_true]
      exact wpAny_pure (wpAny_pure (q _))
  · rintro ⟨r1, r2⟩ s' ⟨hr, rfl, _⟩
    simp only at hr
    subst hr
    exact wpAny_pure (q _)
end
end SmSet
set_option Elab.async false
set_option linter.all false
set_option maxRecDepth 100000
set_option maxHeartbeats 400000
namespace L2
open PySem PySem.Spec PyProof.Rows SmSet
def setO (P : Program) (w : World) (a : Addr) (xs : List (Addr × List Int)) : HO := .ext fun h => ∃ es ep t, h.get? a = some (SetObj es ep t) ∧ Tab t es ∧ es.toList.Perm (xs.map fun x => (tupleKeyHash (mixKind P w) (x.2.map Sum.inl), Value.ref x.1))
section
variable {X : Cx} {pins : List (Addr × Obj)} {σ : St} {H : Hp} {s : Shared} {a : Addr}
theorem setO_ok {P : Program} {w : World} {H : Hp} {h : Heap} {xs : List (Addr × List Int)} {es : Array (Int × Value)} {ep : Nat} {t : SetTable} (ho : h.get? a = some (SetObj es ep t)) (T : Tab t es) (pm : es.toList.Perm (xs.map fun x => (tupleKeyHash (mixKind P w) (x.2.map Sum.inl), Value.ref x.1))) :
    ObjOk P w H h a (setO P w a xs) := ⟨⟨es, ep, t, ho, T, pm⟩, ⟨_, ho⟩, fun h1 h2 ⟨es, ep, t, ho, T, pm⟩ k => ⟨es, ep, t, k _ ho, T, pm⟩⟩
theorem ints_key (ks : List Int) : ks.map V.int = (ks.map Sum.inl).map kV := by rw [List.map_map]; rfl
theorem setO_is (I : Inv X pins σ H s) {xs : List (Addr × List Int)} (h : H a = some (setO X.prog X.w a xs)) (hk : ∀ e ∈ xs, H e.1 = some (.tup (e.2.map V.int))) :
    ∃ es ep t ks, SetT (tupleKind (mixKind X.prog X.w)) s.heap a es ep t ks ∧ es.toList.Perm (xs.map fun x => (tupleKeyHash (mixKind X.prog X.w) (x.2.map Sum.inl), Value.ref x.1)) ∧
      (∀ k : List Int, (∃ i, i < es.size ∧ ks i = k.map Sum.inl) ↔ k ∈ xs.map (·.2)) := by
  obtain ⟨⟨es, ep, t, ho, T, pm⟩, _⟩ := I.hok a _ h
  have pick : ∀ i, ∃ x : Addr × List Int, i < es.size → x ∈ xs ∧ es[i]? = some (tupleKeyHash (mixKind X.prog X.w) (x.2.map Sum.inl), Value.ref x.1) := fun i => by
    by_cases hi : i < es.size
    · have := pm.mem_iff.mp (show es[i] ∈ es.toList from by simp)
      obtain ⟨x, hx, e⟩ := List.mem_map.mp this
      exact ⟨x, fun _ => ⟨hx, by rw [Array.getElem?_eq_getElem hi, ← e]⟩⟩
    · exact ⟨(0, []), fun z => absurd z hi⟩
  refine ⟨es, ep, t, fun i => ((pick i).choose).2.map Sum.inl, ⟨ho, T, fun i hi => ?_⟩, pm, fun k => ⟨?_, fun hk' => ?_⟩⟩
  · obtain ⟨h1, h2⟩ := (pick i).choose_spec hi
    exact ⟨_, Option.some.inj ((Array.getElem?_eq_getElem hi).symm.trans h2), key_of I.hok (by rw [hk _ h1, ints_key])⟩
  · rintro ⟨i, hi, e⟩
    obtain ⟨h1, h2⟩ := (pick i).choose_spec hi
    have : ((pick i).choose).2 = k := List.map_inj_right (fun x y z => Sum.inl.inj z) |>.mp e
    exact List.mem_map.mpr ⟨_, h1, this⟩
  · obtain ⟨x, hx, rfl⟩ := List.mem_map.mp hk'
    have := pm.mem_iff.mpr (List.mem_map.mpr ⟨x, hx, rfl⟩)
    obtain ⟨i, hi, e⟩ := List.getElem_of_mem this
    have hi' : i < es.size := by simpa using hi
    refine ⟨i, hi', ?_⟩
    obtain ⟨h1, h2⟩ := (pick i).choose_spec hi'
    have e' : es[i]? = some (tupleKeyHash (mixKind X.prog X.w) (x.2.map Sum.inl), Value.ref x.1) := by rw [← Array.getElem?_toList, List.getElem?_eq_getElem hi, e]
    rw [h2] at e'
    have ea : ((pick i).choose).1 = x.1 := by injection e' with e'; injection e' with _ e'; injection e'
    have t1 := hk _ h1
    have t2 := hk _ hx
    rw [ea, t2] at t1
    injection t1 with t1
    injection t1 with t1
    have : x.2 = ((pick i).choose).2 := List.map_inj_right (fun x y z => V.int.inj z) |>.mp t1
    rw [this]
def rSetNew (P : Program) (w : World) : List V → Hp → VK → Prop := fun xs H Q => xs = [] ∧ ∀ p, H p = none → Q (.ref p) (upd H p (setO P w p []))
theorem call_setNew : CallR X (.type "set") (rSetNew X.prog X.w) := by
  intro pins s σ H xs us Q I r h
  obtain ⟨rfl, q⟩ := h
  cases r
  refine call_set_0 fun led => ?_
  refine ⟨.ref s.heap.objs.size, _, I.laid (a := s.heap.objs.size) (o := setO X.prog X.w s.heap.objs.size []) (t' := s.toks) (fun _ _ q => Heap.get?_push_of_some _ q) (Nat.le_refl _) ?_, rfl, q _ (I.hok.fresh (Nat.le_refl _))⟩
  exact setO_ok (Heap.get?_push_size _ rfl) ⟨.inl rfl, rfl, .nil, rfl, (fun _ z => nomatch z), (by show 0 * 5 < 7 * 3; decide), fun i hi => absurd hi (Nat.not_lt_zero _)⟩ .nil
def rInS (P : Program) (w : World) : R2 := fun x y H Q => ∃ p xs c, ∃ k : List Int, x = .ref c ∧ y = .ref p ∧ H p = some (setO P w p xs) ∧ H c = some (.tup (k.map V.int)) ∧ (∀ e ∈ xs, H e.1 = some (.tup (e.2.map V.int))) ∧ Q (.bl (decide (k ∈ xs.map (·.2)))) H
theorem op_inS (hu : X.A.units + 64 < cLine) : OpR X (compareOp .In) (rInS X.prog X.w) := by
  intro pins s σ H x y v u Q I rx ry h
  obtain ⟨p, xs, c, k, rfl, rfl, hp, hc, hk, q⟩ := h
  cases rx; cases ry
  obtain ⟨es, ep, t, ks, S, pm, mem⟩ := setO_is I hp hk
  refine inSet (knd := tupleKind (mixKind X.prog X.w)) (kx := k.map Sum.inl) (show X.A.units + 1 < cLine by omega) S (key_of I.hok (by rw [hc, ints_key])) (fun _ _ _ => tup_calm) (fun f => ?_) (fun nf => ?_)
  · rw [decide_eq_true ((mem k).mp f)] at q
    exact ⟨.bl true, H, I.kept (fun _ _ z => z), rfl, q⟩
  · rw [decide_eq_false fun z => by obtain ⟨i, hi, e⟩ := (mem k).mpr z; exact nf i hi e] at q
    exact ⟨.bl false, H, I.kept (fun _ _ z => z), rfl, q⟩
def rAddS (P : Program) (w : World) : V → List V → Hp → VK → Prop := fun x vs H Q => ∃ p xs c, ∃ k : List Int, x = .ref p ∧ vs = [.ref c] ∧ H p = some (setO P w p xs) ∧ H c = some (.tup (k.map V.int)) ∧ (∀ e ∈ xs, H e.1 = some (.tup (e.2.map V.int))) ∧ xs.length < 4000 ∧
  (k ∈ xs.map (·.2) → Q .non H) ∧ (k ∉ xs.map (·.2) → Q .non (upd H p (setO P w p (xs ++ [(c, k)]))))
theorem mt_addS (hu : X.A.units + 64 < cLine) : MtR X "set.add" (rAddS X.prog X.w) := by
  intro pins s σ H x vs v us Q I rx rv h
  obtain ⟨p, xs, c, k, rfl, rfl, hp, hc, hk, few, q1, q2⟩ := h
  cases rx
  obtain ⟨u, rfl, ru⟩ := rv.one
  cases ru
  obtain ⟨es, ep, t, ks, S, pm, mem⟩ := setO_is I hp hk
  have sz : es.size = xs.length := by have := pm.length_eq; rw [Array.length_toList, List.length_map] at this; exact this
  refine callAdd (knd := tupleKind (mixKind X.prog X.w)) (kx := k.map Sum.inl) (show X.A.units + 1 < cLine by omega) S (key_of I.hok (by rw [hc, ints_key])) (fun _ _ _ => tup_calm) tup_hashy (by omega) (fun f => ?_) (fun h' es' ep' t' nf sb go T' pm' => ?_)
  · exact ⟨.non, H, I.kept (fun _ _ z => z), rfl, q1 ((mem k).mp f)⟩
  · refine ⟨.non, _, I.write (x := p) (e := p) (by rw [hp]; trivial) (.inl rfl) (fun b o hb z => (sb.2 b hb).trans z) ⟨_, go⟩ (setO_ok go T' ?_), rfl, q2 fun z => by obtain ⟨i, hi, e⟩ := (mem k).mpr z; exact nf i hi e⟩
    rw [List.map_append]
    exact pm'.trans (pm.append_right _)
def tBMS (P : Program) (w : World) (r : V → List V → Hp → VK → Prop) (to : TE) (t : TA) : TE := fun σ H Q => to σ H fun x H1 => (∃ p xs, x = .ref p ∧ H1 p = some (setO P w p xs)) ∧ t σ H1 fun xs H2 => r x xs H2 Q
theorem pe_bmS {o e : Expr} {es : List Expr} {to : TE} {t : TA} {name : Str} {apos cpos : Pos} {id : String} {r : V → List V → Hp → VK → Prop} (slot : Slot "set" name id) (hty : typeOf (.builtin id) = pure (.type "method_descriptor")) (hm : MtR X id r) (ho : PE X o to) (ha : PA X (e :: es) t)
    (hbase : attributeBase o name X.env (eval o X.env) = eval o X.env := by rfl)
    (hfew : ((backTo cpos (starEach (e :: es) X.env)).all (fun x => !x.1) && (backToKw cpos (keywordEach [] X.env)).all (fun x => x.1.isSome)
      && decide ((e :: es).length + ([] : List Keyword).length + (if ([] : List Keyword).isEmpty then 0 else 1) < 30)) = true := by rfl)
    (hline : (apos.endLine == cpos.line) = true := by rfl) (hs : starEach (e :: es) X.env = (false, eval e X.env) :: starEach es X.env := by rfl) (hplain : (backTo cpos (starEach es X.env)).any (·.1) = false := by rfl) :
    PE X (.Call (.Attribute o name apos) (e :: es) [] cpos) (tBMS X.prog X.w r to t) := by
  intro pins s σ H Q I h
  refine wpAny_Call_method_late hbase hfew hline rfl (thn (ho pins s σ H _ I h) fun v s1 ⟨x, H1, I1, r1, ⟨p, xs, ex, hp⟩, q1⟩ => ?_)
  subst ex
  cases r1
  obtain ⟨⟨es', ep, tt, hob, _⟩, _⟩ := I1.hok p _ hp
  refine ⟨"set", id, F.plainAttrs_set, slot, hty, ⟨_, hob, rfl⟩, fun a e => by cases e; exact ⟨_, hob, rfl⟩, ?_⟩
  have hA := ha cpos pins s1 σ H1 _ I1 q1
  rw [hs] at hA ⊢
  refine Calls.callWith_builtin (by show (false || (backTo cpos (starEach es X.env)).any (·.1)) = false; rw [hplain] <;> rfl) (Calls.evalArgs_plain ?_)
  exact thn hA fun us s2 ⟨vs, H2, I2, r2, q2⟩ => hm pins s2 σ H2 (.ref p) vs (.ref p) us Q I2 rfl r2 q2
end
end L2
set_option Elab.async false
set_option linter.all false
set_option maxRecDepth 100000
set_option maxHeartbeats 400000
namespace L2
open PySem PySem.Spec PyProof.Rows PySem.W
theorem lam_run {P : Program} {w : World} {K : PySem.W.Frag} {mg : Str → Option Value} {base : Heap} {k : Nat} {f c' : Addr} {name qual : Str} {params : Arguments} {body : Expr} {scope : Scope} {pm ctv : Value} {N ps : List Str}
    {A : Around} {outer : List Env} {s : Shared} {H : Hp} {us : List Value} {vs : List V} {Q : VK} (S : FnScope N ps scope) (hr : Room (k + 1) A) (e0 : Env0 P w K mg base A outer s H)
    (ho : s.heap.get? f = some (kla_obj name qual params body scope [] pm c' ctv)) (hcd : s.heap.CodeRec (.ref c') qual) (hb : bindArgs (kla_fn name qual params body scope [] pm (.ref c') ctv) ⟨us, []⟩ = pure (ps.zip us)) (hl : vs.length = ps.length) (r : Vals vs us)
    (hbody : ∃ t, PE (cxOf CX0 P w K mg base N qual scope f (.ref c') A outer s H E0).nox body t ∧ t (start N vs) H Q) :
    codeAny (model P w) A (.call (.ref f) ⟨us, []⟩) (CR CX0 outer P w H s Q E0) s := by
  have lim : s.heap.NoLimit := e0.mod.nolimit.keeps fun b o e => (e0.bs b o e).1
  have hkind : ∀ y ∈ ps.zip us, scope.names.lookup y.1 = some .local ∨ (scope.names.lookup y.1 = some .cell ∧ ((cellsFrom (s.heap.objs.size + 1) scope.names []).lookup y.1).isSome = true) := fun ⟨n, v⟩ hy => by
    rcases S.par n (List.of_mem_zip hy).1 with q | q
    · exact .inl q
    · exact .inr ⟨q, PySem.W.cellsFrom_some _ _ _ (.inl q)⟩
  refine kla_callFunE hr.depth ho rfl S.co S.gen rfl hcd ?_
  rw [hb]
  refine wpAny_pure ?_
  refine wpAny_newFunctionEnv_cells S.kind hkind fun env he s1 x => ?_
  subst he
  refine ⟨lim.keeps x.toInCall.keep, kla_codeExpr ?_⟩
  obtain ⟨t, ht, hq⟩ := hbody
  have I : Inv (cxOf CX0 P w K mg base N qual scope f (.ref c') A outer s H E0) [] (start N vs) H s1 := inv_start S hr.hd e0 hl r x
  refine wpAny_mono (ht.nox [] s1 (start N vs) H _ I hq) (fun u s' hs => ?_) fun e s' hs => hs
  obtain ⟨v, H', J, rv, q⟩ := hs
  exact ⟨v, H', J.os, J.bare, J.base, J.hok, rv, q⟩
end L2
namespace L2
open PySem PySem.Spec PyProof.Rows PySem.W
def codeO (c : Addr) (qual : Str) : HO := .ext fun h => h.CodeRec (.ref c) qual
def MT (P : Addr) (pos : Pos) (qual : Str) (H : Hp) : Prop := H P = some (.tbl #[]) ∨ ∃ c, H P = some (.tbl #[rawInt pos.line, rawInt pos.col, .ref c]) ∧ H c = some (codeO c qual)
def BmAt (mg : Str → Option Value) (base : Heap) : Prop := ∃ bm o, mg "__builtins__" = some (.ref bm) ∧ bm ≠ builtinsNs ∧ bm ≠ mainGlobals ∧ base.get? bm = some o ∧ o.cls = .type "module" ∧ o.dict = some builtinsNs ∧ o.data = .plain
section
variable {X : Cx} {pins : List (Addr × Obj)} {σ : St} {H : Hp} {s : Shared}
theorem Inv.fsLt (I : Inv X pins σ H s) : ∀ b ∈ X.fs, b < s.heap.objs.size := fun b hb => by
  obtain ⟨_, o, ho, _⟩ := I.ok.funs.mem hb
  exact Nat.lt_of_lt_of_le (Heap.lt_size ho) I.sz
theorem codeO_ok {P : Program} {w : World} {H : Hp} {h : Heap} {c : Addr} {qual : Str} (r : h.CodeRec (.ref c) qual) : ObjOk P w H h c (codeO c qual) := by
  obtain ⟨c2, oc, vs, t, e, ho, hd, hv⟩ := id r
  cases e
  exact ⟨r, ⟨_, ho⟩, fun h1 h2 ⟨c2, oc, vs, t, e, ho, hd, hv⟩ k => by cases e; exact ⟨c, oc, vs, t, rfl, k _ ho, hd, hv⟩⟩
theorem lam_eval {P c : Addr} {pos : Pos} {params : Arguments} {body : Expr} {scope : Scope} {Q : Value → Shared → Prop} (I : Inv X pins σ H s) (mt : MT P pos (X.env.qual ++ "<lambda>") H) (hcode : X.env.code = .ref c) (hd : codeHdIn X.K c P = true) (bm : BmAt X.mg X.base)
    (hdef : defaultsOf params X.env = ([], [])) (hcl : closureFor scope X.env = pure [])
    (h : ∀ f c' ctv pm H' s', Inv X ((f, kla_obj "<lambda>" (X.env.qual ++ "<lambda>") params body scope [] pm c' ctv) :: pins) σ H' s' → H' c' = some (codeO c' (X.env.qual ++ "<lambda>")) → Sm.But P H H' → MT P pos (X.env.qual ++ "<lambda>") H' → Q (.ref f) s') :
    wpAny (model X.prog X.w) X.A (eval (.Lambda params body scope pos) X.env) Q X.xe s := by
  refine kla_eval hdef ?_
  have glob : s.heap.Ns mainGlobals X.mg := I.mod.glob.keeps I.bk
  have C : CodeHd s.heap c P := codeHd_of_K I.kIn hd
  have tr : ∃ o, H P = some o := by rcases mt with e | ⟨_, e, _⟩ <;> exact ⟨_, e⟩
  have inB : ∀ b o, X.base.get? b = some o → b ≠ P := fun b o e z => by
    have := (I.bs b o e).2
    obtain ⟨u, hu⟩ := tr
    rw [z, hu] at this; cases this
  have hgP : mainGlobals ≠ P := by
    obtain ⟨o, _, _, e, _⟩ := I.mod.glob
    exact inB _ _ e
  have hB : s.heap.BuiltinsAt X.mg P := by
    obtain ⟨b, o, e1, e2, e3, e4, e5, e6, e7⟩ := bm
    exact ⟨b, o, e1, e2, e3, inB _ _ e4, I.bk _ _ e4, e5, e6, e7⟩
  have pin : ∀ {h' : Heap} {H' : Hp} {ob : Obj} {tk : Nat}, Inv X pins σ H' { s with heap := h'.push ob, toks := tk } → s.heap.objs.size ≤ h'.objs.size → H' h'.objs.size = none → (∀ v, ob.data ≠ .cell v) → ob.isFreed = false → Inv X ((h'.objs.size, ob) :: pins) σ H' { s with heap := h'.push ob, toks := tk } := fun {h' H' ob tk} J hs hn nc nf =>
    J.pins_of fun p hp => by
      rcases List.mem_cons.mp hp with rfl | hp
      · exact ⟨Heap.get?_push_size _ nf, hn, Nat.ne_of_gt (Nat.lt_of_lt_of_le I.lt hs), fun z => Nat.lt_irrefl _ (Nat.lt_of_lt_of_le (I.fsLt _ z) hs), nc⟩
      · exact J.pin p (List.mem_append_right _ hp)
  rcases mt with mt | ⟨c1, mt, hc1⟩
  · have hP : s.heap.get? P = some (tabObj #[]) := I.hok P _ mt
    refine kla_makeFunction hcl I.ok.glob glob hcode C hP trivial rfl hgP hB fun c' ctv h' tk hx hge hlt rec hP' => ?_
    have fr : H c' = none := I.hok.fresh hge
    have ncP : c' ≠ P := fun z => by rw [z, mt] at fr; cases fr
    have rec' : (h'.push (kla_obj "<lambda>" (X.env.qual ++ "<lambda>") params body scope [] ((X.mg "__name__").getD .none) c' ctv)).CodeRec (.ref c') (X.env.qual ++ "<lambda>") := by
      obtain ⟨c2, oc, vs, t, e, ho, hd, hv⟩ := rec
      exact ⟨c2, oc, vs, t, e, Heap.get?_push_of_some _ ho, hd, hv⟩
    have kp : ∀ b o, b ≠ P → s.heap.get? b = some o → (h'.push (kla_obj "<lambda>" (X.env.qual ++ "<lambda>") params body scope [] ((X.mg "__name__").getD .none) c' ctv)).get? b = some o := fun b o hb e => Heap.get?_push_of_some _ (hx b o hb e)
    have hP2 := Heap.get?_push_of_some (kla_obj "<lambda>" (X.env.qual ++ "<lambda>") params body scope [] ((X.mg "__name__").getD .none) c' ctv) hP'
    have at_ : ∀ b, b ≠ P → b ≠ c' → upd (upd H P (.tbl #[rawInt pos.line, rawInt pos.col, .ref c'])) c' (codeO c' (X.env.qual ++ "<lambda>")) b = H b := fun b h1 h2 => by rw [upd_ne h2, upd_ne h1]
    have neT : ∀ b u, H b = some u → u ≠ .tbl #[] → b ≠ P := fun b u e n z => by rw [z, mt] at e; cases e; exact n rfl
    have neC : ∀ b u, H b = some u → b ≠ c' := fun b u e z => by rw [z, fr] at e; cases e
    have lt : ∀ b o, s.heap.get? b = some o → b ≠ c' := fun b o e => Nat.ne_of_lt (Nat.lt_of_lt_of_le (Heap.lt_size e) hge)
    have aP : upd (upd H P (.tbl #[rawInt pos.line, rawInt pos.col, .ref c'])) c' (codeO c' (X.env.qual ++ "<lambda>")) P = some (.tbl #[rawInt pos.line, rawInt pos.col, .ref c']) := by rw [upd_ne ncP.symm, upd_same]
    have J : Inv X pins σ (upd (upd H P (.tbl #[rawInt pos.line, rawInt pos.col, .ref c'])) c' (codeO c' (X.env.qual ++ "<lambda>"))) { s with heap := h'.push (kla_obj "<lambda>" (X.env.qual ++ "<lambda>") params body scope [] ((X.mg "__name__").getD .none) c' ctv), toks := tk } := by
      refine I.un ⟨fun b o e n _ _ => kp b o (fun z => by rw [z, mt] at n; cases n) e, fun b o e n _ _ => ⟨o.slots, kp b o (fun z => by rw [z, mt] at n; cases n) e⟩, fun b o e n _ => ?_, fun b o e _ => ?_, fun b xs e => ?_, fun b o u e => ?_, fun b ps e => ?_⟩ fun b u e => ?_
      · rw [at_ b (fun z => by rw [z, mt] at n; cases n) (lt b o e)]; exact n
      · by_cases z : b = P
        · exact ⟨_, by rw [z]; exact hP2⟩
        · exact ⟨o, kp b o z e⟩
      · rw [at_ b (neT b _ e (by intro z; cases z)) (neC b _ e)]; exact e
      · rw [at_ b (neT b _ e (by intro z; cases z)) (neC b _ e)]; exact e
      · by_cases z : b = P
        · rw [z, mt] at e; cases e
          exact ⟨_, by rw [z, aP, Array.empty_append]⟩
        · exact ⟨#[], by rw [at_ b z (neC b _ e), e, Array.append_empty]⟩
      · by_cases z : b = c'
        · subst z; rw [upd_same] at e; cases e
          exact codeO_ok rec'
        · by_cases z2 : b = P
          · rw [z2, aP] at e; cases e
            rw [z2]
            exact hP2
          · rw [at_ b z2 z] at e
            refine (I.hok b u e).stay (fun b' v hb q => kp b' v (fun y => ?_) q) (fun b' q => by rw [at_ b' (neT b' _ q (by intro z; cases z)) (neC b' _ q)]; exact q) fun b' xs q => by rw [at_ b' (neT b' _ q (by intro z; cases z)) (neC b' _ q)]; exact q
            rcases hb with hb | hb
            · exact z2 (hb.symm.trans y)
            · rw [y, mt] at hb; cases hb
    have nf : upd (upd H P (.tbl #[rawInt pos.line, rawInt pos.col, .ref c'])) c' (codeO c' (X.env.qual ++ "<lambda>")) h'.objs.size = none := by
      rw [at_ h'.objs.size (Nat.ne_of_gt (Heap.lt_size hP')) (Nat.ne_of_gt hlt)]
      exact I.hok.fresh (by omega)
    refine h _ c' ctv ((X.mg "__name__").getD .none) _ _ (pin J (by omega) nf (by intro v z; cases z) rfl) upd_same (fun b u hb e => ?_) (.inr ⟨c', aP, upd_same⟩)
    rw [at_ b hb (neC b _ e)]; exact e
  · have hP : s.heap.get? P = some (tabObj #[rawInt pos.line, rawInt pos.col, .ref c1]) := I.hok P _ mt
    refine kla_makeFunctionHit (cv := .ref c1) hcl I.ok.glob glob hcode C hP ⟨⟩ ?_ hB fun ctv h' tk kp hs => ?_
    · have := codeAmong_snoc (pos := pos) (c := Value.ref c1) [] trivial rfl
      exact this
    · have J : Inv X pins σ H { s with heap := h'.push (kla_obj "<lambda>" (X.env.qual ++ "<lambda>") params body scope [] ((X.mg "__name__").getD .none) c1 ctv), toks := tk } := I.kept fun b o e => Heap.get?_push_of_some _ (kp b o e)
      refine h _ c1 ctv ((X.mg "__name__").getD .none) H _ (pin J hs (I.hok.fresh hs) (by intro v z; cases z) rfl) hc1 (Sm.But.refl P H) (.inr ⟨c1, mt, hc1⟩)
end
end L2
set_option Elab.async false
set_option linter.all false
set_option maxRecDepth 100000
set_option maxHeartbeats 400000
namespace L2
open PySem PySem.Spec PyProof.Rows PySem.W SmSort
section
variable {X : Cx} {pins : List (Addr × Obj)} {σ : St} {H : Hp} {s : Shared}
theorem Inv.adopt {h' : Heap} {D : Addr} {xs : List V} {its : List Value} {n t' : Nat} (I : Inv X pins σ H s) (k : ∀ b o, b ≠ D → s.heap.get? b = some o → h'.get? b = some o) (hn : H D = none) (hs : X.s₀.heap.objs.size ≤ D) (hL : D ≠ X.env.locals)
    (h2 : ∀ x c, X.env.cells.lookup x = some c → c ≠ D) (h3 : ∀ p ∈ X.pn ++ pins, p.1 ≠ D) (ho : h'.get? D = some { cls := .type "list", data := .seq its.toArray n }) (hv : Vals xs its) (hz : xs.length ≤ sizeLine) :
    Inv X pins σ (upd H D (.lst xs)) { s with heap := h', toks := t' } := by
  have nD : ∀ b u, H b = some u → b ≠ D := fun b u e z => by rw [z, hn] at e; cases e
  refine I.step (g' := s.gens) (d' := s.drawn) (ch := [D]) (fun b hb => ?_) (fun b o _ _ hc e _ => k b o (fun z => hc (by simp [z])) e) (fun b o _ _ hc e _ => ⟨o.slots, k b o (fun z => hc (by simp [z])) e⟩)
    (fun b o hc e n => by rw [upd_ne (fun z => hc (by simp [z]))]; exact n) (fun b o hc e => ⟨o, k b o (fun z => hc (by simp [z])) e⟩) (fun b ys e => by rw [upd_ne (nD b _ e)]; exact e) (fun b o u e => by rw [upd_ne (nD b _ e)]; exact e)
    (fun b ps e => ⟨#[], by rw [upd_ne (nD b _ e), e]; simp⟩) (fun m hm => ?_) (fun b u e => ?_) I.bare
  · have e : b = D := by simpa using hb
    subst e
    exact ⟨.inr hs, hL, h2, h3⟩
  · obtain ⟨o, es, ep, ho', r⟩ := hm
    exact ⟨o, es, ep, k _ o (Ne.symm hL) ho', r⟩
  · by_cases hb : b = D
    · subst hb; rw [upd_same] at e; cases e
      exact ⟨hz, its, n, hv, ho⟩
    · rw [upd_ne hb] at e
      refine (I.hok b u e).stay (fun c v hc q => k c v ?_ q) (fun c q => by rw [upd_ne (nD c _ q)]; exact q) fun c ys q => by rw [upd_ne (nD c _ q)]; exact q
      rcases hc with z | z
      · rw [z]; exact hb
      · exact nD c _ z
theorem Inv.cellLt (I : Inv X pins σ H s) {x : Str} {c : Addr} (h : X.env.cells.lookup x = some c) : c < s.heap.objs.size := by
  obtain ⟨v, o, ho, _⟩ := I.cell x c h
  exact Heap.lt_size ho
theorem zip_snds {a b : List Value} (h : b.length ≤ a.length) : (a.toArray.zip b.toArray).map (·.2) = b.toArray := by
  apply Array.toList_inj.mp
  rw [Array.toList_map, ksk_zip]
  exact List.map_snd_zip h
structure Keyed' (X : Cx) (pins : List (Addr × Obj)) (σ : St) (H : Hp) (kS : Addr) (kf : List Int → List Int) (ps : List (Addr × List Int)) (i : Nat) (s' : Shared) : Prop where
  ex : ∃ H', ∃ ks : List (Addr × List Int), Inv X pins σ H' s' ∧ H' kS = some (.lst (ks.map fun k => V.ref k.1)) ∧ (∀ b u, H b = some u → H' b = some u) ∧ (∀ k ∈ ks, H' k.1 = some (.tup (k.2.map V.int))) ∧ ks.map (·.2) = (ps.take i).map fun a => kf a.2
theorem sort_tree {f : Value} {D : Addr} {h : Heap} {kf : List Int → List Int} {ps : List (Addr × List Int)} {A : Around} {P : PySem.Fin → Shared → Prop} {E : Value → Shared → Prop} {t0 : Nat} (I : Inv X pins σ H s) (kp : ∀ b o, s.heap.get? b = some o → h.get? b = some o) (hDs : s.heap.objs.size ≤ D) (hDh : D < h.objs.size)
    (hD : h.get? D = some (seqObj "list" (ps.map fun a => Value.ref a.1).toArray 0)) (h64 : ps.length < 64) (rows : ∀ a ∈ ps, H a.1 = some (.tup (a.2.map V.int))) (kne : ∀ a ∈ ps, kf a.2 ≠ [])
    (turn : ∀ (pins' : List (Addr × Obj)) (a : Addr) (r : List Int) (s' : Shared) (H' : Hp), (∀ p ∈ pins, p ∈ pins') → (a, r) ∈ ps → Inv X pins' σ H' s' → (∀ b u, H b = some u → H' b = some u) →
      wpAny (model X.prog X.w) A (call f [.ref a]) (EP X pins' σ fun v H'' => ∃ t, v = .ref t ∧ Same H' H'' ∧ H'' t = some (.tup ((kf r).map V.int))) (fun _ _ => False) s')
    (q : ∀ qs H2 s2, Inv X pins σ (upd H2 D (.lst (qs.map fun a => V.ref a.1))) s2 → H2 D = none → (∀ b u, H b = some u → H2 b = some u) → List.Perm qs ps → qs.Pairwise (fun a b => lx (kf b.2) (kf a.2) = false) → P (.done (.ret .none)) s2) :
    wpAny (model X.prog X.w) A (ksk_tree D f false) P E { s with heap := h, toks := t0 } := by
  have line : 100 ≤ sizeLine := by rw [sizeLine_eq]; decide
  unfold ksk_tree
  refine wpAny_bind (listItems_at (s := { s with heap := h, toks := t0 }) hD rfl ?_)
  refine wpAny_bind (listUpdate_at (s := { s with heap := h, toks := t0 }) hD rfl ?_ (by rw [List.size_toArray, List.length_map]; omega) (Nat.zero_le _))
  obtain ⟨e1, ho1⟩ : ∃ e1, (h.update D (Obj.mapSeq fun _ => (#[] : Array Value))).get? D = some (seqObj "list" #[] e1) := ⟨_, get?_update_seq hD fun _ => #[]⟩
  refine wpAny_bind (seqEpoch_at ho1 rfl ?_)
  refine wpAny_bind (wpAny_newTuple ?_ (by show (ps.map fun a => Value.ref a.1).length ≤ _; rw [List.length_map]; omega))
  refine wpAny_bind (wpAny_newList ?_ (Nat.zero_le _))
  refine wpAny_holding ?_
  have sz2 : ((h.update D (Obj.mapSeq fun _ => (#[] : Array Value))).push (seqObj "tuple" (ps.map fun a => Value.ref a.1).toArray 0)).objs.size = h.objs.size + 1 := by rw [size_push', Heap.size_update]
  show wpAny _ _ (ksk_rest D f false (ps.map fun a => Value.ref a.1).toArray e1 (.ref ((h.update D (Obj.mapSeq fun _ => (#[] : Array Value))).push (seqObj "tuple" (ps.map fun a => Value.ref a.1).toArray 0)).objs.size)) _ _ _
  rw [sz2]
  have kS1 : D < h.objs.size + 1 := Nat.lt_succ_of_lt hDh
  have kp3 : ∀ b o, s.heap.get? b = some o → (((h.update D (Obj.mapSeq fun _ => (#[] : Array Value))).push (seqObj "tuple" (ps.map fun a => Value.ref a.1).toArray 0)).push (seqObj "list" #[] 0)).get? b = some o := fun b o e => by
    refine Heap.get?_push_of_some _ (Heap.get?_push_of_some _ ?_)
    rw [Heap.get?_update_ne _ _ _ _ (Nat.ne_of_lt (Nat.lt_of_lt_of_le (Heap.lt_size e) hDs))]
    exact kp b o e
  have atK := Heap.get?_push_size ((h.update D (Obj.mapSeq fun _ => (#[] : Array Value))).push (seqObj "tuple" (ps.map fun a => Value.ref a.1).toArray 0)) (o := seqObj "list" #[] 0) rfl
  rw [sz2] at atK
  have atD := Heap.get?_push_of_some (seqObj "list" #[] 0) (Heap.get?_push_of_some (seqObj "tuple" (ps.map fun a => Value.ref a.1).toArray 0) ho1)
  have szS : s.heap.objs.size ≤ h.objs.size + 1 := Nat.le_trans hDs (Nat.le_of_lt (Nat.lt_succ_of_lt hDh))
  have I3 : Inv X pins σ (upd H (h.objs.size + 1) (.lst [])) { s with heap := ((h.update D (Obj.mapSeq fun _ => (#[] : Array Value))).push (seqObj "tuple" (ps.map fun a => Value.ref a.1).toArray 0)).push (seqObj "list" #[] 0), toks := t0 } :=
    I.laid kp3 szS (show ObjOk X.prog X.w _ _ _ (.lst []) from ⟨Nat.zero_le _, [], 0, .nil, atK⟩)
  have fD : H D = none := I.hok.fresh hDs
  have I4 := I3.pins_of (pins' := (D, seqObj "list" #[] e1) :: pins) fun p hp => by
    rcases List.mem_cons.mp hp with rfl | hp
    · exact ⟨atD, by rw [upd_ne (Nat.ne_of_lt kS1)]; exact fD, Nat.ne_of_gt (Nat.lt_of_lt_of_le I.lt hDs), fun z => Nat.lt_irrefl _ (Nat.lt_of_lt_of_le (I.fsLt _ z) hDs), by intro v z; cases z⟩
    · exact I3.pin p (List.mem_append_right _ hp)
  generalize ((h.update D (Obj.mapSeq fun _ => (#[] : Array Value))).push (seqObj "tuple" (ps.map fun a => Value.ref a.1).toArray 0)).push (seqObj "list" #[] 0) = h3 at I4 ⊢
  have fK : H (h.objs.size + 1) = none := I.hok.fresh szS
  generalize hkS : h.objs.size + 1 = kS at *
  unfold ksk_rest
  refine wpAny_bind (wpAny_rule ?_)
  rw [List.forIn_toArray]
  refine wpAny_bind (ksk_fold (fun i s' => Keyed' X ((D, seqObj "list" #[] e1) :: pins) σ H kS kf ps i s') (ps.map fun a => Value.ref a.1) 0 _ ⟨_, [], I4, upd_same, fun b u e => by rw [upd_ne (ne_of_none e fK)]; exact e, (fun _ z => nomatch z), rfl⟩ ?step ?done)
  case step =>
    rintro j x s' hx ⟨H', ks, J, hk, ext, hks, ek⟩
    rw [Nat.zero_add] at ek
    rw [List.getElem?_map] at hx
    cases ea : ps[j]? with
    | none => rw [ea] at hx; cases hx
    | some a =>
      rw [ea] at hx
      have hx : Value.ref a.1 = x := Option.some.inj hx
      subst hx
      refine wpAny_bind (wpAny_attempt (wpAny_mono (turn _ a.1 a.2 s' H' (fun p hp => List.mem_cons_of_mem _ hp) (List.mem_of_getElem? ea) J ext) (fun v s'' he => ?_) fun _ _ hF => hF.elim))
      obtain ⟨v', H'', J2, rv, t, rfl, sm, ht⟩ := he
      cases rv
      have hk2 := sm _ _ hk
      obtain ⟨z, its, n, r, hl, e⟩ := J2.lstM hk2
      have lk : ks.length ≤ j := by have := congrArg List.length ek; rw [List.length_map, List.length_map, List.length_take] at this; omega
      have jl : j < ps.length := (List.getElem?_eq_some_iff.mp ea).1
      have li : its.length = ks.length := by rw [← hl, List.length_map]
      dsimp only
      refine wpAny_bind (listUpdate_at e rfl ?_ (by rw [List.size_toArray]; omega) (by rw [Array.size_push, List.size_toArray]; omega))
      have ne : ∀ b u, H b = some u → b ≠ kS := fun b u e => ne_of_none e fK
      have J3 : Inv X ((D, seqObj "list" #[] e1) :: pins) σ (upd H'' kS (.lst ((ks ++ [(t, kf a.2)]).map fun k : Addr × List Int => V.ref k.1))) { s'' with heap := s''.heap.update kS (Obj.mapSeq (·.push (Value.ref t))), toks := s''.toks } :=
        J2.lset (its' := its ++ [Value.ref t]) hk2 e (by simp) (by rw [List.map_append]; exact r.append (.cons rfl .nil)) (by rw [List.length_map, List.length_append, List.length_singleton]; omega)
      refine wpAny_pure ⟨rfl, _, ks ++ [(t, kf a.2)], J3, upd_same, fun b u e => by rw [upd_ne (ne b u e)]; exact sm _ _ (ext b u e), fun k hk' => ?_, ?_⟩
      · rcases List.mem_append.mp hk' with h' | h'
        · have := sm _ _ (hks k h')
          rw [upd_ne (ne_of this hk2 (by intro z; cases z))]; exact this
        · cases List.mem_singleton.mp h'
          rw [upd_ne (ne_of ht hk2 (by intro z; cases z))]; exact ht
      · rw [Nat.zero_add, List.map_append, ek, List.take_add_one, ea, List.map_append]; rfl
  case done =>
    rintro s' ⟨H', ks, J, hk, ext, hks, ek⟩
    rw [Nat.zero_add, List.length_map, List.take_length] at ek
    obtain ⟨z, its, n, r, hl, e⟩ := J.lstM hk
    refine wpAny_bind (listItems_at e rfl ?_)
    have ei := vals_refs r
    subst ei
    have lks : ks.length = ps.length := by have := congrArg List.length ek; rw [List.length_map, List.length_map] at this; exact this
    have pinD := J.pin (D, seqObj "list" #[] e1) (List.mem_append_right _ (.head _))
    have s0D : X.s₀.heap.objs.size ≤ D := Nat.le_trans I.sz hDs
    have kSD : kS ≠ D := Nat.ne_of_gt kS1
    -- the end
    have tail : ∀ (st : SortSt) (qs : List (Addr × List Int)), (arrOf st).map (·.2) = (qs.map fun a => Value.ref a.1).toArray → failedOf st = none → List.Perm qs ps → qs.Pairwise (fun a b => lx (kf b.2) (kf a.2) = false) → wpAny (model X.prog X.w) A (ksk_tail D false e1 (.ref kS) st) P E s' := fun st qs har hf pm so => by
      have lq : qs.length < 64 := by rw [pm.length_eq]; exact h64
      unfold ksk_tail
      dsimp only
      rw [har, hf]
      refine wpAny_bind (listUpdate_at e rfl ?_ (by rw [List.size_toArray, List.length_map]; omega) (Nat.zero_le _))
      refine wpAny_bind (wpAny_letGo ?_)
      have s1 := Heap.SameBut.update s'.heap kS (Obj.mapSeq fun _ => (#[] : Array Value))
      have aD : (s'.heap.update kS (Obj.mapSeq fun _ => (#[] : Array Value))).get? D = some (seqObj "list" #[] e1) := (s1.2 D kSD.symm).trans pinD.1
      refine wpAny_bind (seqEpoch_at aD rfl ?_)
      refine wpAny_bind (listUpdate_at aD rfl ?_ (Nat.zero_le _) (by show (qs.map fun a => Value.ref a.1).toArray.size ≤ _; rw [List.size_toArray, List.length_map]; omega))
      simp only [bne_self_eq_false, Bool.false_eq_true, if_false]
      have J2 := J.lset (its' := []) (f := fun _ => #[]) (t' := s'.toks) hk e (by simp) (.nil : Vals [] []) (Nat.zero_le _)
      have J3 : Inv X pins σ (upd H' kS (.lst [])) { s' with heap := s'.heap.update kS (Obj.mapSeq fun _ => (#[] : Array Value)) } := J2.pins_of fun p hp => J2.pin p (List.mem_append_right _ (.tail _ hp))
      obtain ⟨c2, hc2⟩ : ∃ c2, ((s'.heap.update kS (Obj.mapSeq fun _ => (#[] : Array Value))).update D (Obj.mapSeq fun _ => (qs.map fun a => Value.ref a.1).toArray)).get? D = some (seqObj "list" (qs.map fun a => Value.ref a.1).toArray c2) := ⟨_, get?_update_seq aD _⟩
      have hnD : (upd H' kS (.lst [])) D = none := by rw [upd_ne kSD.symm]; exact pinD.2.1
      have J4 : Inv X pins σ (upd (upd H' kS (.lst [])) D (.lst (qs.map fun a => V.ref a.1))) { s' with heap := (s'.heap.update kS (Obj.mapSeq fun _ => (#[] : Array Value))).update D (Obj.mapSeq fun _ => (qs.map fun a => Value.ref a.1).toArray), toks := s'.toks } :=
        J3.adopt (fun b o hb q => (Heap.get?_update_other _ _ (Ne.symm hb)).trans q) hnD s0D (Nat.ne_of_gt (Nat.lt_of_lt_of_le I.lt hDs)) (fun x c hc => Nat.ne_of_lt (Nat.lt_of_lt_of_le (I.cellLt hc) hDs)) (fun p hp => Nat.ne_of_lt (Nat.lt_of_lt_of_le (Heap.lt_size (I.pin p hp).1) hDs)) hc2 (vals_of_refs qs) (by rw [List.length_map]; omega)
      refine wpAny_pure (q qs _ _ J4 hnD (fun b u e => ?_) pm so)
      rw [upd_ne (ne_of_none e fK)]; exact ext b u e
    unfold ksk_end
    dsimp only
    rw [if_neg (by decide : ¬ false = true)]
    have szi : (ps.map fun a => Value.ref a.1).toArray.size = ps.length := by rw [List.size_toArray, List.length_map]
    by_cases h2 : ps.length < 2
    · have h2' : (ps.map fun a => Value.ref a.1).toArray.size < 2 := by rw [szi]; exact h2
      rw [if_pos h2', if_pos h2']
      refine wpAny_bind (wpAny_pure ?_)
      rw [StateT.run_pure]
      refine wpAny_bind (wpAny_pure ?_)
      dsimp only
      refine tail _ ps ?_ rfl (List.Perm.refl _) ?_
      · show ((ks.map fun a => Value.ref a.1).toArray.zip (ps.map fun a => Value.ref a.1).toArray).map (·.2) = _
        exact zip_snds (by rw [List.length_map, List.length_map, lks]; exact Nat.le_refl _)
      · match ps, h2 with
        | [], _ => exact .nil
        | [_], _ => exact List.pairwise_singleton _ _
    · have h2' : ¬ (ps.map fun a => Value.ref a.1).toArray.size < 2 := by rw [szi]; exact h2
      rw [if_neg h2', if_neg h2']
      have rowAt : ∀ a ∈ ks, RowAt s'.heap a.1 a.2 ∧ a.2 ≠ [] := fun a ha => by
        obtain ⟨_, its, rv, o, e, c, n, d⟩ := J.hok a.1 _ (hks a ha)
        refine ⟨⟨o, _, n, e, c, d, rv⟩, ?_⟩
        have : a.2 ∈ ks.map (·.2) := List.mem_map.mpr ⟨a, ha, rfl⟩
        rw [ek] at this
        obtain ⟨b, hb, eb⟩ := List.mem_map.mp this
        rw [← eb]; exact kne b hb
      obtain ⟨fs, kt, lf, hf⟩ := kat_tups rowAt
      refine wpAny_bind (kat_kind (T := .type "int") kt (by omega) (fun v hv => ?_) (by decide) ?_)
      · obtain ⟨i, t, rfl⟩ := hf v hv
        exact Looks.now
      have n1 : 1 ≤ (ps.map fun a => Value.ref a.1).length := by rw [List.length_map]; omega
      have hkl : (ks.map fun a => Value.ref a.1).length = (ps.map fun a => Value.ref a.1).length := by rw [List.length_map, List.length_map]; exact lks
      refine wpAny_bind (wpAny_mono (kat_run (Q := fun st' s'' => s'' = s' ∧ ∃ p : Array Nat, arrOf st' = p.map (kas_item ((ks.map fun a => Value.ref a.1).toArray.zip (ps.map fun a => Value.ref a.1).toArray)) ∧ failedOf st' = none ∧ Pm ps.length p ∧ Up (fun i => rk (ks.map (·.2)) ((ks.map (·.2)).getD i [])) p ps.length) (G := fun p s'' => s'' = s' ∧ Pm ps.length p ∧ Up (fun i => rk (ks.map (·.2)) ((ks.map (·.2)).getD i [])) p ps.length) hkl (by rw [List.length_map]; omega) (by rw [List.length_map]; exact h64) (fun p st' s'' a1 a2 a3 a4 => ⟨a4.1, p, a2, a3, a4.2⟩) ?_) ?_ fun _ _ e => e)
      · rw [List.length_map]
        refine KOK.wp (c := cf fun i => rk (ks.map (·.2)) ((ks.map (·.2)).getD i [])) (fun i j C hi hj hC => ?_) (fun pp hp => ⟨rfl, hp⟩) _ (sort_ok (f := fun i => rk (ks.map (·.2)) ((ks.map (·.2)).getD i [])) (by omega))
        have hi' : i < ks.length := by omega
        have hj' : j < ks.length := by omega
        obtain ⟨⟨o, items, n, ho, hc, hd, hv⟩, hn⟩ := rowAt ks[i] (List.getElem_mem hi')
        obtain ⟨⟨o', items', n', ho', hc', hd', hv'⟩, hn'⟩ := rowAt ks[j] (List.getElem_mem hj')
        unfold kas_ask
        have ei : (ks.map fun a => Value.ref a.1).getD i Value.none = .ref ks[i].1 := by simp [hi']
        have ej : (ks.map fun a => Value.ref a.1).getD j Value.none = .ref ks[j].1 := by simp [hj']
        rw [ei, ej]
        refine kat_lt ho hd ho' hd' (vals_lex hv hv' (by simp) ?_)
        have e : cf (fun i => rk (ks.map (·.2)) ((ks.map (·.2)).getD i [])) i j = lx ks[i].2 ks[j].2 := by
          unfold cf
          have e1 : (ks.map (·.2)).getD i [] = ks[i].2 := by simp [hi']
          have e2 : (ks.map (·.2)).getD j [] = ks[j].2 := by simp [hj']
          simp only [e1, e2]
          exact rk_lt (List.mem_map.mpr ⟨ks[i], List.getElem_mem hi', rfl⟩)
        rw [e] at hC
        exact hC
      · rintro ⟨⟨⟩, st'⟩ s'' ⟨rfl, p, har, hfl, pm, up⟩
        dsimp only
        have pl : p.toList.Perm (List.range ps.length) := by
          have := pm.toList
          simpa using this
        have perm : (p.toList.map fun i => ps.getD i (0, [])).Perm ps := by
          have := pl.map fun i => ps.getD i (0, [])
          rwa [range_map] at this
        refine tail st' (p.toList.map fun i => ps.getD i (0, [])) ?_ hfl perm ?_
        · rw [kat_snds hkl har, List.map_map]
          congr 1
          refine List.map_congr_left fun i hi => ?_
          have hi' : i < ps.length := List.mem_range.mp (pl.mem_iff.mp hi)
          simp [hi']
        · rw [List.pairwise_iff_getElem]
          intro i j hi hj hij
          simp only [List.length_map, Array.length_toList] at hi hj
          simp only [List.getElem_map, Array.getElem_toList]
          have hn : p.size = ps.length := pm.size
          have key := up i j (Nat.le_of_lt hij) (by omega)
          have a1 : p[i] < ps.length := List.mem_range.mp (pl.mem_iff.mp (by simp))
          have a2 : p[j] < ps.length := List.mem_range.mp (pl.mem_iff.mp (by simp))
          unfold g SmSort.at' at key
          simp only [hi, hj, getElem?_pos, Option.getD_some] at key
          have e0 : ∀ k (hk : k < ps.length), (ks.map (·.2)).getD k [] = kf ps[k].2 := fun k hk => by rw [ek]; simp [hk]
          have e1 := e0 p[i] a1
          have e2 := e0 p[j] a2
          rw [e1, e2] at key
          have e3 : ps.getD p[i] (0, []) = ps[p[i]] := by simp [a1]
          have e4 : ps.getD p[j] (0, []) = ps[p[j]] := by simp [a2]
          rw [e3, e4]
          have := rk_lt (rs := ks.map (·.2)) (a := kf ps[p[j]].2) (b := kf ps[p[i]].2) (by rw [ek]; exact List.mem_map.mpr ⟨_, List.getElem_mem a2, rfl⟩)
          rw [← this]
          simp only [decide_eq_false_iff_not]
          omega
end
end L2
set_option Elab.async false
set_option linter.all false
set_option maxRecDepth 100000
set_option maxHeartbeats 400000
namespace L2
open PySem PySem.Spec PyProof.Rows PySem.W SmSort PySem.Calls
def tSortK (P : Addr) (lpos : Pos) (qual : Str) (ok : List Int → Prop) (kf : List Int → List Int) (te : TE) : TE := fun σ H Q => te σ H fun x H1 => ∃ p, ∃ ps : List (Addr × List Int), [x] = [V.ref p] ∧ H1 p = some (.lst (ps.map fun a => V.ref a.1)) ∧ ps.length < 64 ∧ MT P lpos qual H1 ∧ (∀ a ∈ ps, H1 a.1 = some (.tup (a.2.map V.int)) ∧ ok a.2) ∧
  ∀ l (qs : List (Addr × List Int)) H2, H1 l = none → Sm.But P H1 H2 → MT P lpos qual H2 → H2 l = some (.lst (qs.map fun a : Addr × List Int => V.ref a.1)) → List.Perm qs ps → qs.Pairwise (fun a b : Addr × List Int => lx (kf b.2) (kf a.2) = false) → Q (.ref l) H2
section
variable {X : Cx} {e body : Expr} {te : TE} {np kp lpos pos : Pos} {params : Arguments} {scope : Scope} {P c : Addr} {N : List Str} {ok : List Int → Prop} {kf : List Int → List Int} {pn : Str}
theorem pe_sortKey (hg : Gl X "sorted") (hm : X.mg "sorted" = none) (hcode : X.env.code = .ref c) (hcd : codeHdIn X.K c P = true) (bm : BmAt X.mg X.base) (hdef : defaultsOf params X.env = ([], [])) (hcl : closureFor scope X.env = pure []) (hr : Room 3 X.A)
    (S : FnScope N [pn] scope) (hbind : ∀ pm c' ctv u, bindArgs (kla_fn "<lambda>" (X.env.qual ++ "<lambda>") params body scope [] pm (.ref c') ctv) ⟨[u], []⟩ = pure (List.zip [pn] [u])) (kne : ∀ r, ok r → kf r ≠ [])
    (hbody : ∀ f c' A s H, ∃ t, PE (cxOf CX0 X.prog X.w X.K X.mg X.base N (X.env.qual ++ "<lambda>") scope f (.ref c') A X.stack s H E0).nox body t ∧ ∀ a r, H a = some (.tup (r.map V.int)) → ok r → t (start N [.ref a]) H (fun v H'' => ∃ t, v = .ref t ∧ Same H H'' ∧ H'' t = some (.tup ((kf r).map V.int))))
    (he : PE X e te) (ns : notStar e = true) :
    PE X (.Call (.Name "sorted" np) [e] [⟨some "key", .Lambda params body scope lpos, kp⟩] pos) (tSortK P lpos (X.env.qual ++ "<lambda>") ok kf te) := by
  intro pins s σ H Q I h
  have ha : PA X [e] (tCons te tNil) := pa_out (pa_c he pa_n ns)
  have line : 100 ≤ sizeLine := by rw [sizeLine_eq]; decide
  refine wpAny_Call_Name_kw (ld_blt I hg hm PyProof.Rows.boot_sorted ?_ (by decide) (by decide))
  refine callWith_kw (thn (ha pos pins s σ H (fun vs H1 => ∃ p, ∃ ps : List (Addr × List Int), vs = [V.ref p] ∧ H1 p = some (.lst (ps.map fun a => V.ref a.1)) ∧ ps.length < 64 ∧ MT P lpos (X.env.qual ++ "<lambda>") H1 ∧ (∀ a ∈ ps, H1 a.1 = some (.tup (a.2.map V.int)) ∧ ok a.2) ∧
    ∀ l (qs : List (Addr × List Int)) H2, H1 l = none → Sm.But P H1 H2 → MT P lpos (X.env.qual ++ "<lambda>") H2 → H2 l = some (.lst (qs.map fun a : Addr × List Int => V.ref a.1)) → List.Perm qs ps → qs.Pairwise (fun a b : Addr × List Int => lx (kf b.2) (kf a.2) = false) → Q (.ref l) H2) I h)
    fun us s1 ⟨vs, H1, I1, r1, q1⟩ => kws_cons ?_) (by rw [star_cons ns]; rfl) (by rw [star_cons ns]; rfl)
  obtain ⟨p, ps, rfl, hp, h64, mt, rows, q⟩ := q1
  obtain ⟨u, rfl, ru⟩ := vals1 r1
  cases ru
  refine lam_eval I1 mt hcode hcd bm hdef hcl fun f c' ctv pm H' s' J hc' bt mt' => kws_nil ?_
  have neP : ∀ b u, H1 b = some u → (∀ ys, u ≠ .tbl ys) → b ≠ P := fun b u e n z => by
    rcases mt with m | ⟨_, m, _⟩ <;> (rw [z, m] at e; cases e; exact n _ rfl)
  have hp' := bt _ _ (neP _ _ hp (by intro ys z; cases z)) hp
  have rows' : ∀ a ∈ ps, H' a.1 = some (.tup (a.2.map V.int)) := fun a ha => bt _ _ (neP _ _ (rows a ha).1 (by intro ys z; cases z)) (rows a ha).1
  obtain ⟨z, its, n, r, hl, hpe⟩ := J.lstM hp'
  have ei := vals_refs r
  subst ei
  refine call_function_entry_kw kind_sorted plain_sorted entry_sorted (ksk_s1 _ _) ?_
  unfold Builtin.«sorted»
  refine wpAny_bind (m := checkCount "sorted" 1 1 _) (wpAny_pure ?_)
  refine wpAny_bind (collect_list (vs := (ps.map fun a => Value.ref a.1)) ⟨_, hpe, rfl, _, rfl⟩ ?_ (by rw [List.length_map]; omega))
  refine wpAny_bind (wpAny_newList ?_ (by rw [List.length_map]; omega))
  have hsz : ((s'.heap.push (seqObj "list" #[] 0)).update s'.heap.objs.size (Obj.mapSeq (· ++ (ps.map fun a => Value.ref a.1).toArray))).objs.size = s'.heap.objs.size + 1 := by
    rw [Heap.size_update, size_push']
  have hoL : (((s'.heap.push (seqObj "list" #[] 0)).update s'.heap.objs.size (Obj.mapSeq (· ++ (ps.map fun a => Value.ref a.1).toArray))).push (seqObj "list" (ps.map fun a => Value.ref a.1).toArray 0)).get? (s'.heap.objs.size + 1) = some (seqObj "list" (ps.map fun a => Value.ref a.1).toArray 0) := by
    rw [← hsz]; exact Heap.get?_push_size _ rfl
  have keep : ∀ b o, s'.heap.get? b = some o → (((s'.heap.push (seqObj "list" #[] 0)).update s'.heap.objs.size (Obj.mapSeq (· ++ (ps.map fun a => Value.ref a.1).toArray))).push (seqObj "list" (ps.map fun a => Value.ref a.1).toArray 0)).get? b = some o := fun b o q => by
    have hlt : b < s'.heap.objs.size := Heap.lt_size q
    rw [Heap.get?_push_ne _ _ _ (by rw [hsz]; exact Nat.ne_of_lt (Nat.lt_succ_of_lt hlt)), Heap.get?_update_ne _ _ _ _ (Nat.ne_of_lt hlt), Heap.get?_push_ne _ _ _ (Nat.ne_of_lt hlt)]
    exact q
  show wpAny _ _ _ _ _ { s' with heap := ((s'.heap.push (seqObj "list" #[] 0)).update s'.heap.objs.size (Obj.mapSeq (· ++ (ps.map fun a => Value.ref a.1).toArray))).push (seqObj "list" (ps.map fun a => Value.ref a.1).toArray 0) }
  rw [hsz]
  refine wpAny_bind (wpAny_holding (wpAny_call_entry_kw slot_list_sort ⟨_, hoL, rfl⟩ entry_list_sort ?body (ksk_l1 _ _)))
  have hmem : (f, kla_obj "<lambda>" (X.env.qual ++ "<lambda>") params body scope [] pm c' ctv) ∈ (f, kla_obj "<lambda>" (X.env.qual ++ "<lambda>") params body scope [] pm c' ctv) :: pins := .head _
  show wpAny (model X.prog X.w) X.A.in1.in1 (Builtin.«list.sort» ⟨[.ref (s'.heap.objs.size + 1)], [(Str.ofString "key", .ref f)]⟩) _ _ _
  rw [ksk_t1]
  refine sort_tree (kf := kf) (ps := ps) J keep (Nat.le_succ _) (by rw [Heap.size_push, hsz]; exact Nat.lt_succ_self _) hoL h64 rows' (fun a ha => kne _ (rows a ha).2) (fun pins' a rr s2 H2 sub ha J2 ext => ?_) fun qs H2 s2 J2 hn ext pm' so => ?_
  · have hf := J2.pin _ (List.mem_append_right _ (sub _ hmem))
    have hcr : s2.heap.CodeRec (.ref c') (X.env.qual ++ "<lambda>") := (J2.hok c' _ (ext _ _ hc')).1
    obtain ⟨t, ht, hq⟩ := hbody f c' X.A.in1.in1 s2 H2
    refine wpAny_call (codeAny_mono (lam_run (k := 0) S hr.in1.in1 J2.env0.in1.in1 hf.1 hcr (hbind pm c' ctv (.ref a)) (vs := [V.ref a]) rfl (.cons rfl .nil) ⟨t, ht, hq a rr (ext _ _ (rows' _ ha)) (rows _ ha).2⟩) fun r s3 hr3 => ?_)
    cases r with
    | error e => exact hr3.elim
    | ok fl =>
      cases fl with
      | ret u => exact J2.after hr3
      | next => exact False.elim hr3
      | brk => exact False.elim hr3
      | cont => exact False.elim hr3
  · refine ⟨_, rfl, wpAny_pure ⟨_, rfl, ?_⟩⟩
    have fr : H' (s'.heap.objs.size + 1) = none := J.hok.fresh (Nat.le_succ _)
    have ext' : ∀ b u, H' b = some u → upd H2 (s'.heap.objs.size + 1) (.lst (qs.map fun a => V.ref a.1)) b = some u := fun b u e => by rw [upd_ne (ne_of_none e fr)]; exact ext b u e
    refine ⟨.ref (s'.heap.objs.size + 1), _, J2.pins_of fun p hp => J2.pin p (List.mem_append_right _ (.tail _ hp)), rfl, q _ qs _ ?_ (fun b u n e => ext' b u (bt b u n e)) ?_ upd_same pm' so⟩
    · cases e : H1 (s'.heap.objs.size + 1) with
      | none => rfl
      | some u =>
        by_cases z : s'.heap.objs.size + 1 = P
        · rcases mt' with m | ⟨_, m, _⟩ <;> (rw [← z, fr] at m; cases m)
        · rw [bt _ _ z e] at fr; cases fr
    · rcases mt' with m | ⟨c1, m, m2⟩
      · exact .inl (ext' _ _ m)
      · exact .inr ⟨c1, ext' _ _ m, ext' _ _ m2⟩
end
end L2
set_option Elab.async false
set_option linter.all false
set_option maxRecDepth 100000
set_option maxHeartbeats 400000
namespace L2
open PySem PySem.Spec PyProof.Rows PySem.W
theorem noTab_of {K : PySem.W.Frag} {h : Heap} {P : Addr} (X : K.In h) (hP : h.get? P = some (tabObj #[])) (nt : noTabs K = true) : K.lookup P = none := by
  cases e : K.lookup P with
  | none => rfl
  | some o =>
    have h1 := X P o e
    rw [hP] at h1; cases h1
    have h2 := List.all_eq_true.mp nt (P, _) (mem_of_lookupK e)
    exact absurd (show false = true from h2) Bool.false_ne_true
theorem law_callT {P : Program} {w : World} {K : PySem.W.Frag} {mg mb : Str → Option Value} {CX : CXT} {k : Nat} {fa a c T : Addr} {fd : FuncData} {x : Str} {sp : Sp} {s₁ : Shared} {vs : List Value} {ns : List Int}
    (KX : K.In s₁.heap) (hns : s₁.heap.Ns mainGlobals mg) (hb : s₁.heap.Ns builtinsNs mb) (hbb : ∀ x : Str, x ≠ "__name__" → mb x = bootBuiltins x) (hlim : s₁.heap.NoLimit) (hg : s₁.gens = #[])
    (hT : s₁.heap.get? T = some (tabObj #[])) (hC : codeHdIn K c T = true) (nt : noTabs K = true) (hbm : ∃ bm ob, mg "__builtins__" = some (.ref bm) ∧ bm ≠ builtinsNs ∧ s₁.heap.get? bm = some ob ∧ ob.cls = .type "module" ∧ ob.dict = some builtinsNs ∧ ob.data = .plain)
    (ha : s₁.heap.get? a = some { cls := .type "list", data := .seq vs.toArray }) (hi : IntsAre vs ns) (hl : ns.length ≤ sizeLine) (hr : Room k callerA)
    (F : ∀ base : Heap, K.In base → base.Ns mainGlobals mg → BmAt mg base → FnOk P w K mg base CX k fa fd [x] sp) (hbind : ∀ (s : Shared) (u : Value), BindsTo s fd ⟨[u], []⟩ [(x, u)])
    (hsp : ∀ H : Hp, H T = some (.tbl #[]) → SqL K H a (ns.map V.int) → sp [.ref a] H (fun v _ => v = .bl true) fun _ _ _ => False)
    (hCX : ∀ H e s', CX [] H s₁ (fun _ _ _ => False) e s' → False) :
    codeAny (model P w) callerA (.call (.ref fa) ⟨[.ref a], []⟩) (fun r s' => r = .ok (.ret (.bool true)) ∧ OldK s₁.heap s'.heap ∧ s'.os = s₁.os ∧ AllBare s'.gens) s₁ := by
  have rv := vals_ints hi
  have lenV := hi.length
  have naT : a ≠ T := fun z => by rw [z, hT] at ha; cases ha
  have lkT := noTab_of KX hT nt
  have isT := ((codeHd_of_K KX hC).tab hT).isCodeTable
  have core : ∀ H : Hp, (∀ b, H b = none ∨ (b = a ∧ ∃ o xs, H b = some (.frz o (.lst xs))) ∨ (b = T ∧ H b = some (.tbl #[]))) → H T = some (.tbl #[]) → SqL K H a (ns.map V.int) → HOk P w H s₁.heap → (H a ≠ none → K.lookup a = none) →
      codeAny (model P w) callerA (.call (.ref fa) ⟨[.ref a], []⟩) (fun r s' => r = .ok (.ret (.bool true)) ∧ OldK s₁.heap s'.heap ∧ s'.os = s₁.os ∧ AllBare s'.gens) s₁ := by
    intro H hO hTH hS hok hK
    have base_of : ∀ {b : Addr} {o : Obj}, s₁.heap.get? b = some o → H b = none → (hidT s₁.heap H).get? b = some o := fun e n => hidT_get e n
    have noH : ∀ {b : Addr} {o : Obj}, s₁.heap.get? b = some o → (∀ i n, o.data ≠ .seq i n) → (∀ f, o.data ≠ .fields f) → H b = none := fun {b o} e d1 d2 => by
      rcases hO b with q | ⟨rfl, _⟩ | ⟨rfl, _⟩
      · exact q
      · rw [ha] at e; cases e; exact absurd rfl (d1 _ _)
      · rw [hT] at e; cases e; exact absurd rfl (d2 _)
    have nsK : ∀ {b : Addr} {m : Str → Option Value}, s₁.heap.Ns b m → (hidT s₁.heap H).Ns b m := fun {b m} ⟨o, es, ep, e, d, r⟩ => ⟨o, es, ep, base_of e (noH e (fun i n z => by rw [d] at z; cases z) fun f z => by rw [d] at z; cases z), d, r⟩
    have hKb : K.In (hidT s₁.heap H) := fun b o e => base_of (KX b o e) (by
      rcases hO b with q | ⟨rfl, _, _, q⟩ | ⟨rfl, q⟩
      · exact q
      · rw [hK (by rw [q]; simp)] at e; cases e
      · rw [lkT] at e; cases e)
    have hM : Mod K mg (hidT s₁.heap H) := ⟨hKb, nsK hns, ⟨mb, nsK hb, hbb⟩, let ⟨mc, h1, h2⟩ := hlim; ⟨mc, nsK h1, h2⟩⟩
    have hB : BmAt mg (hidT s₁.heap H) := by
      obtain ⟨bm, ob, b1, b2, b3, b4, b5, b6⟩ := hbm
      refine ⟨bm, ob, b1, b2, fun z => ?_, base_of b3 (noH b3 (fun i n z => by rw [b6] at z; cases z) fun f z => by rw [b6] at z; cases z), b4, b5, b6⟩
      obtain ⟨o, es, ep, e, d, _⟩ := hns
      rw [z, e] at b3; cases b3; rw [b6] at d; cases d
    have e0 : Env0 P w K mg (hidT s₁.heap H) callerA [] s₁ H := ⟨rfl, hM, fun b o e => of_hidT e, Nat.le_of_eq (hidT_size _ _), trivial, fun b hb => absurd (show b ∈ ([] : List Addr) from hb) (by simp), hok, .of_eq hg⟩
    refine codeAny_mono ((F _ hKb (nsK hns) hB).run callerA [] s₁ H ⟨[.ref a], []⟩ [.ref a] [.ref a] _ _ hr e0 (hbind s₁ (.ref a)) (.cons rfl .nil) (hsp H hTH hS)) fun r s' h => ?_
    cases r with
    | error e => exact (hCX H e s' h).elim
    | ok fl =>
      cases fl with
      | next => exact False.elim h
      | brk => exact False.elim h
      | cont => exact False.elim h
      | ret u =>
        obtain ⟨v, H', os, bare, un, hok', r', q⟩ := h
        have q' : v = .bl true := q
        subst q'
        obtain rfl : u = Value.bool true := r'
        have all : ∀ b o, s₁.heap.get? b = some o → s'.heap.get? b = some o ∨ (b = T ∧ ∃ ps, s'.heap.get? T = some (tabObj ps)) := fun b o e => by
          rcases hO b with q | ⟨_, ob, xs, z⟩ | ⟨rfl, z⟩
          · exact .inl (un.keep b o e q (by intro z; exact absurd (show b ∈ ([] : List Addr) from z) (by simp)) (by simp))
          · have z2 := un.frzs b ob _ z
            obtain ⟨e1, _⟩ := hok b _ z
            obtain ⟨e2, _⟩ := hok' b _ z2
            rw [e] at e1; cases e1
            exact .inl e2
          · obtain ⟨more, z2⟩ := un.tbls b _ z
            have e2 : s'.heap.get? b = some _ := hok' b _ z2
            exact .inr ⟨rfl, _, e2⟩
        refine ⟨rfl, ⟨fun b o e => ?_, fun b o e => ?_⟩, os, bare⟩
        · rcases all b o e with q | ⟨rfl, ps, q⟩
          · exact .inl q
          · rw [hT] at e; cases e
            exact .inr (.inl ⟨isT, rfl, #[], ps, rfl, by rw [Array.empty_append]; exact q⟩)
        · rcases all b o e with q | ⟨rfl, ps, q⟩
          · exact ⟨_, q⟩
          · exact ⟨_, q⟩
  cases hk : K.lookup a with
  | some o =>
    have e := KX a o hk
    rw [ha] at e
    cases e
    refine core (fun b => if b = T then some (.tbl #[]) else none) (fun b => ?_) (if_pos rfl) (.inr ⟨_, vs.toArray, _, hk, rfl, rfl, rfl, by rw [List.size_toArray, lenV]; exact hl, by simpa using rv⟩) (fun b u z => ?_) fun z => absurd (if_neg naT) z
    · by_cases hb : b = T
      · exact .inr (.inr ⟨hb, if_pos hb⟩)
      · exact .inl (if_neg hb)
    · by_cases hb : b = T
      · have z' := (if_pos hb).symm.trans z
        cases z'
        subst hb
        exact hT
      · have z' := (if_neg hb).symm.trans z
        cases z'
  | none =>
    have at1 : (fun b => if b = T then some (HO.tbl #[]) else if b = a then some (.frz { cls := .type "list", data := .seq vs.toArray } (.lst (ns.map V.int))) else none) a = some (.frz { cls := .type "list", data := .seq vs.toArray } (.lst (ns.map V.int))) := (if_neg naT).trans (if_pos rfl)
    refine core (fun b => if b = T then some (.tbl #[]) else if b = a then some (.frz { cls := .type "list", data := .seq vs.toArray } (.lst (ns.map V.int))) else none) (fun b => ?_) (if_pos rfl) (.inl (.inr ⟨{ cls := .type "list", data := .seq vs.toArray }, at1⟩)) (fun b u z => ?_) fun _ => hk
    · by_cases hb : b = T
      · exact .inr (.inr ⟨hb, if_pos hb⟩)
      · by_cases hb' : b = a
        · exact .inr (.inl ⟨hb', _, _, (if_neg hb).trans (if_pos hb')⟩)
        · exact .inl ((if_neg hb).trans (if_neg hb'))
    · by_cases hb : b = T
      · have z' := (if_pos hb).symm.trans z
        cases z'
        subst hb
        exact hT
      · by_cases hb' : b = a
        · have z' := ((if_neg hb).trans (if_pos hb')).symm.trans z
          cases z'
          subst hb'
          exact ⟨ha, by rw [List.length_map]; exact hl, vs, _, rv, ha⟩
        · have z' := ((if_neg hb).trans (if_neg hb')).symm.trans z
          cases z'
theorem walk_ofT {l : PySem.W.OpenLaw} {n k : Nat} {q : Program} {loose : List Str} {XP : (Str → Option Value) → Heap → Prop} {YP : World → Heap → Prop} {d : DefRec} {K : Params → PySem.W.Frag} {CX : World → CXT} {sp : World → Sp} {x : Str} {T : Addr}
    (hn : l.most = some n) (hn2 : n ≤ sizeLine) (hdf : d.params.defaults = []) (hr : Room k callerA)
    (hY : ∀ (w : World) (h : Heap), YP w h → (K w.params).In h ∧ h.get? T = some (tabObj #[])) (nt : ∀ w : World, noTabs (K w.params) = true)
    (F : ∀ (w : World) (mg : Str → Option Value) (fa : Addr) (h : Heap), (K w.params).In h → h.Ns mainGlobals mg → mg d.name = some (.ref fa) →
      ∃ fd : FuncData, (∃ c, codeHdIn (K w.params) c T = true) ∧ (∀ (s : Shared) (u : Value), BindsTo s fd ⟨[u], []⟩ [(x, u)]) ∧
        ∀ base : Heap, (K w.params).In base → base.Ns mainGlobals mg → BmAt mg base → FnOk l.prog w (K w.params) mg base (CX w) k fa fd [x] (sp w))
    (hsp : ∀ (w : World) (H : Hp) (a : Addr) (ns : List Int), ns.length ≤ n → H T = some (.tbl #[]) → SqL (K w.params) H a (ns.map V.int) → sp w [.ref a] H (fun v _ => v = .bl true) fun _ _ _ => False)
    (hCX : ∀ (w : World) (H : Hp) (s : Shared) (e : Value) (s' : Shared), CX w [] H s (fun _ _ _ => False) e s' → False) :
    PySem.W.WalkO q loose XP YP l.row.toRowW d [] (fun f vs => PySem.call f vs) := by
  refine Att.attach_call hn hdf fun w s₀ s₁ mg mb fa o pm cd doc a vs ns G Y ho hd hcd hmg hobj hints hlen hg => ?_
  obtain ⟨KX, tX⟩ := hY w _ Y
  obtain ⟨fd, ⟨c, hC⟩, hb, hF⟩ := F w mg fa _ KX G.T.g hmg
  exact law_callT KX G.T.g G.T.b G.T.builtins G.T.nolimit hg tX hC (nt w) G.T.bmain hobj hints (Nat.le_trans hlen hn2) hr hF hb (fun H hO hS => hsp w H a ns hlen hO hS) fun H e s' => hCX w H s₁ e s'
end L2
set_option Elab.async false
set_option linter.all false
set_option maxRecDepth 100000
set_option maxHeartbeats 400000
namespace Sm
open PySem L2 SmSort
def lamQ : Str := (("made_book" : Str) ++ ".<locals>.") ++ "<lambda>"
def spLawT (K : PySem.W.Frag) (T : Addr) (lp : Pos) : Sp := fun vs H Q _ => ∃ (a : Addr) (ns : List Int), vs = [.ref a] ∧ SqL K H a (ns.map V.int) ∧ ns.length ≤ 63 ∧ MT T lp lamQ H ∧ ∀ H', Q (.bl true) H'
def M4.norm (r : M4) : M4 := ⟨min r.lo r.hi, max r.lo r.hi, r.t, r.m⟩
def M4.ints (r : M4) : List Int := [r.lo, r.hi, r.t, r.m]
structure Raw (w : Int) (ms : List M4) : Prop where
  few : ms.length ≤ 60
  each : ∀ r ∈ ms, 0 ≤ r.lo ∧ r.lo < w ∧ 0 ≤ r.hi ∧ r.hi < w ∧ r.lo ≠ r.hi ∧ 1 ≤ r.t ∧ r.t ≤ 1000000000 ∧ 1 ≤ r.m ∧ r.m ≤ 99
  pw : ms.Pairwise fun a b => a.t = b.t → apart a b
theorem apart.symm {a b : M4} (h : apart a b) : apart b a := ⟨h.1.symm, h.2.2.1.symm, h.2.1.symm, h.2.2.2.symm⟩
theorem apart.norm {a b : M4} (h : apart a b) : apart a.norm b.norm := by
  obtain ⟨h1, h2, h3, h4⟩ := h
  unfold apart M4.norm
  dsimp only
  refine ⟨?_, ?_, ?_, ?_⟩ <;> omega
theorem Raw.loose {w : Int} {ms : List M4} (g : Raw w ms) : Loose w (ms.map M4.norm) := by
  refine ⟨by rw [List.length_map]; exact g.few, fun r hr => ?_, List.pairwise_map.mpr (g.pw.imp fun h e => (h e).norm)⟩
  obtain ⟨x, hx, rfl⟩ := List.mem_map.mp hr
  obtain ⟨h1, h2, h3, h4, h5, h6, h7, h8, h9⟩ := g.each x hx
  unfold M4.norm
  dsimp only
  exact ⟨by omega, by omega, by omega, h6, h7, h8, h9⟩
def keyF (l : List Int) : List Int := [l.getD 2 0, l.getD 0 0]
theorem keyF_ne (l : List Int) (_ : l.length = 4) : keyF l ≠ [] := by intro h; cases h
theorem lx2 {a b c d : Int} (h : lx [a, b] [c, d] = false) : c < a ∨ (c = a ∧ d ≤ b) := by
  by_cases e : a = c
  · subst e
    by_cases e2 : b = d
    · subst e2; exact .inr ⟨rfl, Int.le_refl _⟩
    · simp [lx, e2] at h
      exact .inr ⟨rfl, h⟩
  · simp [lx, e] at h
    omega
theorem keyed_back {fs : List (Addr × M4)} {qs : List (Addr × List Int)} (p : qs.Perm (fs.map fun a => (a.1, a.2.ints))) (s : qs.Pairwise fun a b => lx (keyF b.2) (keyF a.2) = false) :
    ∃ rs : List (Addr × M4), rs.Perm fs ∧ (rs.Pairwise fun a b => a.2.t < b.2.t ∨ (a.2.t = b.2.t ∧ a.2.lo ≤ b.2.lo)) ∧ qs = rs.map fun a => (a.1, a.2.ints) := by
  have back : ∀ x ∈ qs, ((x.1, (⟨x.2.getD 0 0, x.2.getD 1 0, x.2.getD 2 0, x.2.getD 3 0⟩ : M4).ints) : Addr × List Int) = x := fun x hx => by
    obtain ⟨y, hy, rfl⟩ := List.mem_map.mp (p.mem_iff.mp hx)
    rfl
  have e : qs = (qs.map fun x : Addr × List Int => ((x.1, (⟨x.2.getD 0 0, x.2.getD 1 0, x.2.getD 2 0, x.2.getD 3 0⟩ : M4)) : Addr × M4)).map fun a => (a.1, a.2.ints) := by
    rw [List.map_map]
    conv => lhs; rw [← List.map_id qs]
    exact List.map_congr_left fun x hx => (back x hx).symm
  refine ⟨qs.map fun x : Addr × List Int => ((x.1, (⟨x.2.getD 0 0, x.2.getD 1 0, x.2.getD 2 0, x.2.getD 3 0⟩ : M4)) : Addr × M4), ?_, ?_, e⟩
  · have := p.map fun x : Addr × List Int => ((x.1, (⟨x.2.getD 0 0, x.2.getD 1 0, x.2.getD 2 0, x.2.getD 3 0⟩ : M4)) : Addr × M4)
    rw [List.map_map] at this
    refine this.trans ?_
    have e2 : (fs.map ((fun x : Addr × List Int => ((x.1, (⟨x.2.getD 0 0, x.2.getD 1 0, x.2.getD 2 0, x.2.getD 3 0⟩ : M4)) : Addr × M4)) ∘ fun a : Addr × M4 => (a.1, a.2.ints))) = fs := by
      conv => rhs; rw [← List.map_id fs]
      exact List.map_congr_left fun _ _ => rfl
    rw [e2]
  · refine List.pairwise_map.mpr (s.imp fun {a b} h => ?_)
    dsimp only
    exact lx2 h
theorem Loose.good2 {w : Int} {fs qs : List (Addr × M4)} (g : Loose w (fs.map (·.2))) (p : qs.Perm fs) (s : qs.Pairwise fun a b => a.2.t < b.2.t ∨ (a.2.t = b.2.t ∧ a.2.lo ≤ b.2.lo)) : Good w (qs.map (·.2)) := by
  have pm := p.map (·.2)
  refine ⟨by rw [pm.length_eq]; exact g.few, fun r hr => g.each r (pm.mem_iff.mp hr), ?_⟩
  have ap : (qs.map (·.2)).Pairwise fun a b => a.t = b.t → apart a b := (List.Perm.pairwise_iff (fun {x y} h e => (h e.symm).symm) pm).mpr g.pw
  refine List.pairwise_map.mpr ((s.and (List.pairwise_map.mp ap)).imp ?_)
  rintro a b ⟨h | ⟨h1, h2⟩, k⟩
  · exact .inl h
  · have := k h1
    exact .inr ⟨h1, by have := this.1; omega, this⟩
def spLsrF : Sp := fun vs H Q _ => ∃ t, ∃ r : M4, vs = [.ref t] ∧ H t = some (.tup r.vs) ∧ ∀ t' H', Same H H' → H' t' = some (.tup r.norm.vs) → Q (.ref t') H'
def spMade (T : Addr) (lp : Pos) : Sp := fun vs H Q _ => ∃ pr pm rooms fs, vs = [.ref pr, .ref pm] ∧ H pr = some (.lst (List.map V.int rooms)) ∧ 1 ≤ rooms.length ∧ rooms.length ≤ 12 ∧ (∀ r ∈ rooms, (0 : Int) ≤ r ∧ r ≤ 99) ∧ ListAt H pm fs ∧ Raw rooms.length (fs.map (·.2)) ∧ MT T lp lamQ H ∧
  ∀ b tr tm ps H', But T H H' → MT T lp lamQ H' → BookAt H' b rooms tr tm ps → Good rooms.length (ps.map (·.2)) → (ps.map (·.2)).Perm (fs.map fun a => a.2.norm) → Q (.ref b) H'
end Sm
namespace L2
open PySem
theorem MT.same {P : Addr} {pos : Pos} {qual : Str} {H H' : Hp} (m : MT P pos qual H) (s : Same H H') : MT P pos qual H' := by
  rcases m with m | ⟨c, m, m2⟩
  · exact .inl (s _ _ m)
  · exact .inr ⟨c, s _ _ m, s _ _ m2⟩
end L2
namespace Sm
open PySem L2 SmSort
theorem lam_key {K : PySem.W.Frag} {H : Hp} {a : Addr} {r : List Int} (h : H a = some (.tup (r.map V.int))) (ho : r.length = 4) :
    ∃ x, SqT K H a x ∧ ∃ y, atI x 2 = some y ∧ ∃ x, SqT K H a x ∧ ∃ z, atI x 0 = some z ∧ 2 ≤ sizeLine ∧ ∀ p : Addr, H p = none → Same H (upd H p (HO.tup [y, z])) ∧ upd H p (HO.tup [y, z]) p = some (HO.tup (List.map V.int (keyF r))) :=
  match r, ho with
  | [_, _, _, _], _ => ⟨_, SqT.of h, _, rfl, _, SqT.of h, _, rfl, by rw [sizeLine_eq]; decide, fun p hp => ⟨same_new hp, upd_same⟩⟩
end Sm
namespace L2
open PySem
theorem MT.go {P p : Addr} {pos : Pos} {qual : Str} {H H' : Hp} (m : MT P pos qual H) (pu : Sm.Purse H p) (g : Sm.Go p H H') : MT P pos qual H' := by
  obtain ⟨x, y, z, e⟩ := pu
  rcases m with m | ⟨c, m, m2⟩
  · exact .inl (g.1 _ _ (ne_of m e (by intro z; cases z)) m)
  · exact .inr ⟨c, g.1 _ _ (ne_of m e (by intro z; cases z)) m, g.1 _ _ (ne_of m2 e (by intro z; cases z)) m2⟩
end L2
set_option Elab.async false
set_option linter.all false
set_option maxRecDepth 100000
set_option maxHeartbeats 400000
namespace Sm
open PySem L2 SmSort
theorem MT.tups' {T : Addr} {lp : Pos} {q : Str} {H H' : Hp} (m : MT T lp q H) (b : But T H H') : Tups H H' := fun x u e => b x _ (fun z => by
  rcases m with m | ⟨_, m, _⟩ <;> (rw [z, m] at e; cases e)) e
theorem MT.keep {T : Addr} {lp : Pos} {q : Str} {H H' : Hp} (m : MT T lp q H) (b : But T H H') {x : Addr} {u : HO} (e : H x = some u) (n : ∀ ys, u ≠ .tbl ys) : H' x = some u := b x u (fun z => by
  rcases m with m | ⟨_, m, _⟩ <;> (rw [z, m] at e; cases e; exact n _ rfl)) e
theorem MT.seq {T : Addr} {lp : Pos} {q : Str} {K : PySem.W.Frag} {H H' : Hp} {a : Addr} {xs : List V} (m : MT T lp q H) (b : But T H H') (h : SqL K H a xs) : SqL K H' a xs := by
  rcases h with (h | ⟨o, h⟩) | h
  · exact .inl (.inl (MT.keep m b h (by intro ys z; cases z)))
  · exact .inl (.inr ⟨o, MT.keep m b h (by intro ys z; cases z)⟩)
  · exact .inr h
end Sm
set_option Elab.async false
set_option linter.all false
set_option maxRecDepth 100000
set_option maxHeartbeats 400000
namespace Sm
open PySem L2 SmSort
structure L4 where
  s : Nat
  w : Nat
  a : Int
  z : Int
end Sm
namespace Sm
open PySem L2 SmSort
end Sm
set_option Elab.async false
set_option linter.all false
set_option maxRecDepth 100000
set_option maxHeartbeats 400000
namespace Sm
open PySem L2 SmSort
abbrev Ds := List (V × Option (Int × Int))
def givB (ms : List M4) (d : Option (Int × Int)) : Bool := match d with
  | none => false
  | some (k, g) => decide (0 ≤ k) && (decide (k < ms.length) && (match ms[k.toNat]? with | some m => decide (g = m.lo) || decide (g = m.hi) | none => false))
def ttr (ms : List M4) : Fn → Int → List (Option (Int × Int)) → Option Fn
  | f, _, [] => some f
  | _, _, none :: _ => none
  | f, bh, some (k, g) :: r => match ms[k.toNat]? with
    | none => none
    | some m => if givB ms (some (k, g)) = true ∧ bh < k ∧ below (f g.toNat) m.t = true then ttr ms (fstep f ⟨g.toNat, (if g = m.lo then m.hi else m.lo).toNat, m.t⟩) k r else none
def tt (ms : List M4) (s : Nat) (a : Int) : Option Ds → Option Fn
  | none => none
  | some ps => ttr ms (lone s a) (-1) (ps.map (·.2))
end Sm
namespace Sm
open PySem L2 SmSort
end Sm
namespace Sm
open PySem L2 SmSort
end Sm
namespace Sm
open PySem L2 SmSort
end Sm
namespace Sm
open PySem L2 SmSort
section
variable {K : PySem.W.Frag} {H : Hp} {σ : St} {lt p : Addr} {n g : Nat} {f : Fn} {t : Int} {Q : VK}
end
end Sm
namespace Sm
open PySem L2 SmSort
end Sm
namespace Sm
open PySem L2 SmSort
section
variable {K : PySem.W.Frag} {H : Hp} {a b : Addr} {xs ys : List V} {lo hi : Option Int} {Q : VK}
end
end Sm
namespace Sm
open PySem L2 SmSort
end Sm
namespace Sm
open PySem L2 SmSort
section
variable {K : PySem.W.Frag} {D : Ends} {σ : St} {HI H : Hp} {l la lb lf : Addr} {x : V} {ss A C : List (Addr × Int × Int)} {n : Nat} {o : Option (Int × Int)}
end
section
variable {K : PySem.W.Frag} {D : Ends} {HI H0 : Hp} {l la lb lf lm : Addr} {ms : List V} {ss A C : List (Addr × Int × Int)} {n : Nat} {s0 s1 s2 s3 s4 s5 s6 s8 : Option V}
end
end Sm
namespace Sm
open PySem L2 SmSort
end Sm
namespace Sm
open PySem L2 SmSort
section
variable {K : PySem.W.Frag} {σ : St} {H : Hp}
end
end Sm
namespace Sm
open PySem L2 SmSort
section
variable {K : PySem.W.Frag} {σ : St} {H : Hp}
end
end Sm
set_option Elab.async false
set_option linter.all false
set_option maxRecDepth 100000
set_option maxHeartbeats 400000
namespace Sm
open PySem L2 SmSort
theorem bls {bs : List Bool} : ∀ x ∈ bs.map V.bl, flatV x = true ∧ eqV x x = true := bl_flat fun x hx => by
  obtain ⟨b, _, rfl⟩ := List.mem_map.mp hx
  exact ⟨b, rfl⟩
end Sm
namespace Sm
open PySem L2 SmSort
end Sm
namespace Sm
open PySem L2 SmSort
end Sm
set_option Elab.async false
set_option linter.all false
set_option maxRecDepth 100000
set_option maxHeartbeats 400000
namespace L2
open PySem PySem.Spec PyProof.Rows
section
variable {P : Program} {w : World} {K : PySem.W.Frag} {mg : Str → Option Value} {base : Heap}
theorem Fun.okCE {x qual : Str} {st : Stmt} {f c : Addr} {fd : FuncData} {N ps : List Str} {k : Nat} {sp : Sp} (F : Fun K x qual st f fd) (hc : fd.code = .ref c) (S : FnScope N ps (defScope st)) (len : ∀ vs H Q E, sp vs H Q E → vs.length = ps.length)
    (hbody : ∀ (A : Around) (outer : List Env) (s : Shared) (H : Hp) (vs : List V) (Q : VK) (E : XK), Room k (A.deeper (envOfC qual (defScope st) s.heap.objs.size f (.ref c))) → sp vs H Q E →
      ∃ t, PSs ((cxOf (CXE P w) P w K mg base N qual (defScope st) f (.ref c) A outer s H E).exc E) (defBody st) t ∧ t { nx := fun _ H' => Q .non H', rt := Q } (start N vs) H) : FnOk P w K mg base (CXE P w) (k + 1) f fd ps sp := by
  obtain ⟨oc, od, kV, doc, pm, an, cdv, ct, osl, rfl, lk, hcd⟩ := F.ex
  have hc : cdv = .ref c := hc
  subst hc
  refine fn_of lk hcd S len fun A outer s H vs Q E hr hsp => ?_
  obtain ⟨t, h, q⟩ := hbody A outer s H vs Q E hr hsp
  refine ⟨t, fun pins s1 σ H1 D I hw => ?_, q⟩
  exact wpAny_mono (h pins s1 σ H1 D (I.wish _) hw) (fun _ _ z => z.unwish) fun e s2 z => wx_leaves (base := base) I.ok.frames rfl I.ok.funs z.2
end
end L2
namespace Sm
open PySem L2 SmSort
end Sm
set_option Elab.async false
set_option linter.all false
set_option maxRecDepth 100000
set_option maxHeartbeats 400000
namespace Sm
open PySem L2 SmSort
def apt (a b : M4) : Prop := a.t = b.t → apart a b
def RawE (w : Int) (ms : List M4) : Prop := ∀ r ∈ ms, 0 ≤ r.lo ∧ r.lo < w ∧ 0 ≤ r.hi ∧ r.hi < w ∧ r.lo ≠ r.hi ∧ 1 ≤ r.t ∧ r.t ≤ 1000000000 ∧ 1 ≤ r.m ∧ r.m ≤ 99
def spTwiceG : Sp := fun vs H Q _ => ∃ l fs w, vs = [.ref l] ∧ ListAt H l fs ∧ fs.length ≤ 60 ∧ RawE w (fs.map (·.2)) ∧ ((fs.map (·.2)).Pairwise apt → ∀ H', Same H H' → Q (.bl false) H') ∧ (¬ (fs.map (·.2)).Pairwise apt → ∀ H', Same H H' → Q (.bl true) H')
theorem pw_snoc {α : Type} {R : α → α → Prop} {l : List α} {x : α} (h : l.Pairwise R) (hx : ∀ y ∈ l, R y x) : (l ++ [x]).Pairwise R :=
  List.pairwise_append.mpr ⟨h, List.pairwise_singleton _ _, fun y hy z hz => by rw [List.mem_singleton.mp hz]; exact hx y hy⟩
theorem not_pw {α : Type} {R : α → α → Prop} {l : List α} {i j : Nat} {x y : α} (hi : l[i]? = some x) (hj : l[j]? = some y) (lt : i < j) (n : ¬ R x y) : ¬ l.Pairwise R := fun h => by
  obtain ⟨li, rfl⟩ := List.getElem?_eq_some_iff.mp hi
  obtain ⟨lj, rfl⟩ := List.getElem?_eq_some_iff.mp hj
  exact n (List.pairwise_iff_getElem.mp h i j li lj lt)
end Sm
set_option Elab.async false
set_option linter.all false
set_option maxRecDepth 100000
set_option maxHeartbeats 400000
namespace L2
open PySem PySem.Spec PyProof.Rows
mutual
inductive DA (H : Hp) : V → PyData → Prop
  | non : DA H .non .none
  | bl (b : Bool) : DA H (.bl b) (.bool b)
  | int (i : Int) : DA H (.int i) (.int i)
  | str (x : Str) : DA H (.str x) (.str x)
  | lst {a : Addr} {vs : List V} {ds : List PyData} (h : H a = some (.lst vs)) (r : DAs H vs ds) : DA H (.ref a) (.list ds)
  | tup {a : Addr} {vs : List V} {ds : List PyData} (h : H a = some (.tup vs)) (r : DAs H vs ds) : DA H (.ref a) (.tuple ds)
  | dct {a : Addr} (h : H a = some (.dK [])) : DA H (.ref a) (.dict [])
inductive DAs (H : Hp) : List V → List PyData → Prop
  | nil : DAs H [] []
  | cons {v : V} {vs : List V} {d : PyData} {ds : List PyData} (h : DA H v d) (r : DAs H vs ds) : DAs H (v :: vs) (d :: ds)
end
mutual
theorem DA.keep {H H' : Hp} (k : ∀ a o, H a = some o → ((∃ xs, o = .lst xs) ∨ (∃ xs, o = .tup xs) ∨ o = .dK []) → H' a = some o) : ∀ {v : V} {d : PyData}, DA H v d → DA H' v d
  | _, _, .non => .non
  | _, _, .bl b => .bl b
  | _, _, .int i => .int i
  | _, _, .str x => .str x
  | _, _, .lst h r => .lst (k _ _ h (.inl ⟨_, rfl⟩)) (DAs.keep k r)
  | _, _, .tup h r => .tup (k _ _ h (.inr (.inl ⟨_, rfl⟩))) (DAs.keep k r)
  | _, _, .dct h => .dct (k _ _ h (.inr (.inr rfl)))
theorem DAs.keep {H H' : Hp} (k : ∀ a o, H a = some o → ((∃ xs, o = .lst xs) ∨ (∃ xs, o = .tup xs) ∨ o = .dK []) → H' a = some o) : ∀ {vs : List V} {ds : List PyData}, DAs H vs ds → DAs H' vs ds
  | _, _, .nil => .nil
  | _, _, .cons h r => .cons (DA.keep k h) (DAs.keep k r)
end
theorem DA.same {H H' : Hp} {v : V} {d : PyData} (h : DA H v d) (s : Same H H') : DA H' v d := h.keep fun _ _ e _ => s _ _ e
theorem DAs.get {H : Hp} : ∀ {vs : List V} {ds : List PyData} {i : Nat} {v : V}, DAs H vs ds → vs[i]? = some v → ∃ d, ds[i]? = some d ∧ DA H v d
  | _, _, 0, _, .cons h _, e => by cases e; exact ⟨_, rfl, h⟩
  | _, _, i + 1, _, .cons _ r, e => DAs.get (i := i) r e
  | _, _, _, _, .nil, e => by cases e
theorem DAs.ints {H : Hp} : ∀ (ns : List Int), DAs H (ns.map V.int) (ns.map PyData.int)
  | [] => .nil
  | n :: ns => .cons (.int n) (DAs.ints ns)
section
variable {X : Cx} {pins : List (Addr × Obj)} {σ : St} {H : Hp} {s : Shared}
theorem empty_at {a : Addr} (I : Inv X pins σ H s) (e : H a = some (.dK [])) : ∃ o es ep, s.heap.get? a = some o ∧ o.cls = .type "dict" ∧ o.data = .dict es ep ∧ es.toList = [] := by
  obtain ⟨_, _, vs, rel, p⟩ := (show ObjOk X.prog X.w H s.heap a (.dK []) from I.hok a _ e)
  cases rel
  obtain ⟨o, es, ep, g, x, d, _, pr, _⟩ := p
  refine ⟨o, es, ep, g, x.1, d, ?_⟩
  generalize es.toList = l at pr
  cases pr
  rfl
mutual
theorem DA.reads (I : Inv X pins σ H s) : ∀ {v : V} {d : PyData} {u : Value}, DA H v d → RelV v u → ∃ as, Reads s.heap u d as
  | _, _, _, .non, r => by cases r; exact ⟨_, .none⟩
  | _, _, _, .bl b, r => by cases r; exact ⟨_, .bool b⟩
  | _, _, _, .int i, r => by obtain ⟨t, rfl⟩ := r; exact ⟨_, .int i t⟩
  | _, _, _, .str x, r => by obtain ⟨t, rfl⟩ := r; exact ⟨_, .str x t⟩
  | _, _, _, .lst h q, r => by
    cases r
    obtain ⟨its, r, p, _⟩ := I.list (SqL.of (K := X.K) h)
    obtain ⟨as, q'⟩ := DAs.reads I q r
    obtain ⟨o, e, c, n, d⟩ := p.isList
    exact ⟨_, .list e c d (by simpa using q')⟩
  | _, _, _, .tup h q, r => by
    cases r
    obtain ⟨its, r, p, _⟩ := I.tuple (SqT.of (K := X.K) h)
    obtain ⟨as, q'⟩ := DAs.reads I q r
    obtain ⟨o, e, c, n, d⟩ := p
    exact ⟨_, .tuple e c d (by simpa using q')⟩
  | _, _, _, .dct h, r => by
    cases r
    obtain ⟨o, es, ep, g, c, dd, e0⟩ := empty_at I h
    exact ⟨_, .dict g c dd (by rw [e0]; exact .nil) (by rw [e0]; exact .nil)⟩
theorem DAs.reads (I : Inv X pins σ H s) : ∀ {vs : List V} {ds : List PyData} {us : List Value}, DAs H vs ds → Vals vs us → ∃ as, ReadsAll s.heap us ds as
  | _, _, _, .nil, .nil => ⟨_, .nil⟩
  | _, _, _, .cons h q, .cons r rs => by
    obtain ⟨as, h'⟩ := DA.reads I h r
    obtain ⟨bs, q'⟩ := DAs.reads I q rs
    exact ⟨_, .cons h' q'⟩
end
mutual
theorem DA.text (I : Inv X pins σ H s) : ∀ {v : V} {d : PyData} {u : Value}, DA H v d → RelV v u → d.showable = true → d.shown.length ≤ sizeLine →
    ∃ bs, ReadAtMost s.heap d.depth bs ∧ ReprK X.prog X.w bs s.heap d.depth u d.shown
  | _, _, _, .non, r, _, _ => by
    cases r; refine ⟨[], nofun, ?_⟩; rw [PyData.shown]; exact .of_is ReprIs.none _ _ _
  | _, _, _, .bl b, r, _, _ => by
    cases r; refine ⟨[], nofun, ?_⟩; rw [PyData.shown]; exact .of_is (ReprIs.bool b) _ _ _
  | _, _, _, .int i, r, hs, _ => by
    obtain ⟨t, rfl⟩ := r; refine ⟨[], nofun, ?_⟩; rw [PyData.shown]
    rw [PyData.showable] at hs
    exact .of_is (ReprIs.int t (of_decide_eq_true hs)) _ _ _
  | _, _, _, .str x, r, _, hz => by
    obtain ⟨t, rfl⟩ := r; refine ⟨[], nofun, ?_⟩; rw [PyData.shown] at hz ⊢
    exact .of_is (ReprIs.str x t hz) _ _ _
  | _, _, _, .lst h q, r, hs, hz => by
    obtain ⟨as0, rd⟩ := DA.reads I (.lst h q) r
    cases r
    rw [PyData.showable] at hs
    rw [PyData.shown] at hz
    obtain ⟨its, r, p, _⟩ := I.list (SqL.of (K := X.K) h)
    obtain ⟨bs, hb, k⟩ := DAs.text I q r hs fun t ht => Nat.le_trans (listText_mem_le ht) hz
    obtain ⟨o, e, c, n, d⟩ := p.isList
    have nm := not_mem_of_deeper rd (by rw [PyData.depth]; exact Nat.lt_succ_self _) hb
    refine ⟨_ :: bs, ReadAtMost.cons rd (by rw [PyData.depth]; exact Nat.le_succ _) hb, ?_⟩
    rw [PyData.depth, PyData.shown]
    cases its with
    | nil =>
      cases r
      cases q
      rw [PyData.shownAll, listText_nil]
      exact ReprK.listEmpty e c d
    | cons x l => exact ReprK.list e c d nm (by simpa using k.length_eq) fun i y g => k.item i y (by simpa using g)
  | _, _, _, .tup h q, r, hs, hz => by
    obtain ⟨as0, rd⟩ := DA.reads I (.tup h q) r
    cases r
    rw [PyData.showable] at hs
    rw [PyData.shown] at hz
    obtain ⟨its, r, p, _⟩ := I.tuple (SqT.of (K := X.K) h)
    obtain ⟨bs, hb, k⟩ := DAs.text I q r hs fun t ht => Nat.le_trans (tupleText_mem_le ht) hz
    obtain ⟨o, e, c, n, d⟩ := p
    have nm := not_mem_of_deeper rd (by rw [PyData.depth]; exact Nat.lt_succ_self _) hb
    refine ⟨_ :: bs, ReadAtMost.cons rd (by rw [PyData.depth]; exact Nat.le_succ _) hb, ?_⟩
    rw [PyData.depth, PyData.shown]
    exact ReprK.tuple e c d nm (by simpa using k)
  | _, _, _, .dct h, r, hs, hz => by
    obtain ⟨as0, rd⟩ := DA.reads I (.dct h) r
    cases r
    obtain ⟨o, es, ep, g, c, dd, e0⟩ := empty_at I h
    obtain ⟨_, ns, _⟩ := (show ObjOk X.prog X.w H s.heap _ (.dK []) from I.hok _ _ h)
    refine ⟨[_], ReadAtMost.cons rd (Nat.zero_le _) nofun, ?_⟩
    rw [PyData.depth, PyData.depthKv, PyData.shown, PyData.shownKv]
    exact ReprK.dict g c dd ns List.not_mem_nil (by rw [e0]; exact .nil)
theorem DAs.text (I : Inv X pins σ H s) : ∀ {vs : List V} {ds : List PyData} {us : List Value}, DAs H vs ds → Vals vs us → PyData.showableAll ds = true → (∀ t ∈ PyData.shownAll ds, t.length ≤ sizeLine) →
    ∃ bs, ReadAtMost s.heap (PyData.depthAll ds) bs ∧ ReprAllK X.prog X.w bs s.heap (PyData.depthAll ds) us (PyData.shownAll ds)
  | _, _, _, .nil, .nil, _, _ => by
    refine ⟨[], nofun, ?_⟩; rw [PyData.shownAll]; exact .nil
  | _, _, _, .cons h q, .cons r rs, hs, hz => by
    rw [PyData.showableAll, Bool.and_eq_true] at hs
    rw [PyData.shownAll] at hz ⊢
    obtain ⟨b1, m1, k1⟩ := DA.text I h r hs.1 (hz _ List.mem_cons_self)
    obtain ⟨b2, m2, k2⟩ := DAs.text I q rs hs.2 fun t ht => hz t (List.mem_cons_of_mem _ ht)
    rw [PyData.depthAll]
    refine ⟨b1 ++ b2, (m1.mono (Nat.le_max_left _ _)).append (m2.mono (Nat.le_max_right _ _)), .cons ((k1.more fun _ => List.mem_append_left _).level_le (Nat.le_max_left _ _)) (k2.more_le (fun _ => List.mem_append_right _) (Nat.le_max_right _ _))⟩
end
def rRepr : List V → Hp → VK → Prop := fun xs H Q => ∃ a ds, xs = [.ref a] ∧ DA H (.ref a) (.tuple ds) ∧ (PyData.tuple ds).showable = true ∧ (PyData.tuple ds).depth ≤ 40 ∧ (PyData.tuple ds).shown.length ≤ sizeLine ∧ Q (.str (PyData.tuple ds).shown) H
theorem call_repr (hg : X.A.guards = some []) (hu : X.A.units + 64 < cLine) : CallR X (.builtin "repr") rRepr := by
  intro pins s σ H xs us Q I r h
  obtain ⟨a, ds, rfl, hd, sh, dp, sz, q⟩ := h
  obtain ⟨u, rfl, ru⟩ := vals1 r
  obtain ⟨as0, rd⟩ := DA.reads I hd ru
  cases ru
  cases hd with
  | tup h qs =>
    obtain ⟨its, r, p, _⟩ := I.tuple (SqT.of (K := X.K) h)
    rw [PyData.showable] at sh
    rw [PyData.shown] at sz q
    rw [PyData.depth] at dp
    obtain ⟨bs, hb, k⟩ := DAs.text I qs r sh fun t ht => Nat.le_trans (tupleText_mem_le ht) sz
    have ty : s.TypeIs (.ref a) "tuple" := by obtain ⟨o, e, c, _⟩ := p; exact ⟨o, e, c⟩
    obtain ⟨o, e, c, n, d⟩ := p
    have nm := not_mem_of_deeper rd (by rw [PyData.depth]; exact Nat.lt_succ_self _) hb
    refine call_repr_slot (by omega) ty F.slot_tuple_repr ?_
    refine call_tuple_reprK e c d nm (by simpa using k) hg (fun b _ => Clear.nil b) (by show X.A.units + 1 + _ < _; omega) (fun _ _ e => e) (fun h' u tk kk => ⟨_, _, rfl, .str _, H, I.kept kk, ⟨_, rfl⟩, q⟩) sz
end
end L2
set_option Elab.async false
set_option linter.all false
set_option maxRecDepth 100000
set_option maxHeartbeats 400000
namespace Sm
open PySem L2 SmSort
def hid (p : Addr) (H : Hp) : Hp := fun a => if a = p then none else H a
theorem hid_ne {p a : Addr} {H : Hp} (h : a ≠ p) : hid p H a = H a := by unfold hid; rw [if_neg h]
theorem hid_at {p a : Addr} {H : Hp} {o : HO} (h : hid p H a = some o) : a ≠ p ∧ H a = some o := by
  unfold hid at h
  split at h
  · cases h
  · exact ⟨by assumption, h⟩
theorem hid_go {p : Addr} {H H' : Hp} (g : But p H H') : Same (hid p H) (hid p H') := fun a o e => by
  obtain ⟨n, e⟩ := hid_at e
  rw [hid_ne n]; exact g a o n e
def okD (k n : Nat) (d : PyData) : Prop := d.showable = true ∧ d.depth ≤ k ∧ d.shown.length ≤ n
def DO (H : Hp) (k n : Nat) (v : V) : Prop := ∃ d, DA H v d ∧ okD k n d
theorem DO.same {H H' : Hp} {k n : Nat} {v : V} (h : DO H k n v) (s : Same H H') : DO H' k n v := by
  obtain ⟨d, h, o⟩ := h; exact ⟨d, h.same s, o⟩
theorem DO.mono {H : Hp} {k n k' n' : Nat} {v : V} (h : DO H k n v) (a : k ≤ k') (b : n ≤ n') : DO H k' n' v := by
  obtain ⟨d, h, o1, o2, o3⟩ := h; exact ⟨d, h, o1, by omega, by omega⟩
theorem DO.out {p : Addr} {H : Hp} {k n : Nat} {v : V} (h : DO (hid p H) k n v) : DO H k n v := by
  obtain ⟨d, h, o⟩ := h; exact ⟨d, h.keep fun a o e _ => (hid_at e).2, o⟩
theorem DO.all {H : Hp} {k n : Nat} : ∀ {vs : List V}, (∀ v ∈ vs, DO H k n v) → ∃ ds, DAs H vs ds ∧ PyData.showableAll ds = true ∧ PyData.depthAll ds ≤ k ∧ ((PyData.shownAll ds).map (·.length)).sum ≤ n * vs.length ∧ ds.length = vs.length
  | [], _ => ⟨[], .nil, rfl, Nat.zero_le _, Nat.zero_le _, rfl⟩
  | v :: vs, h => by
    obtain ⟨d, a, o1, o2, o3⟩ := h v List.mem_cons_self
    obtain ⟨ds, b, p1, p2, p3, p4⟩ := DO.all fun x hx => h x (List.mem_cons_of_mem _ hx)
    refine ⟨d :: ds, .cons a b, by rw [PyData.showableAll, o1, p1]; rfl, by rw [PyData.depthAll]; omega, ?_, by rw [List.length_cons, List.length_cons, p4]⟩
    rw [PyData.shownAll, List.map_cons, List.sum_cons, List.length_cons, Nat.mul_succ]
    omega
theorem DO.tup {H : Hp} {k n m : Nat} {a : Addr} {vs : List V} (h : H a = some (.tup vs)) (hv : ∀ v ∈ vs, DO H k n v) (hm : vs.length ≤ m) : DO H (k + 1) ((n + 2) * m + 3) (.ref a) := by
  obtain ⟨ds, b, p1, p2, p3, p4⟩ := DO.all hv
  refine ⟨.tuple ds, .tup h b, by rw [PyData.showable]; exact p1, by rw [PyData.depth]; omega, ?_⟩
  rw [PyData.shown]
  have l := tupleText_len_le (PyData.shownAll ds)
  rw [PyData.shownAll_length, p4] at l
  have := Nat.mul_le_mul_left (n + 2) hm
  rw [Nat.add_mul] at this
  omega
theorem DO.lst {H : Hp} {k n m : Nat} {a : Addr} {vs : List V} (h : H a = some (.lst vs)) (hv : ∀ v ∈ vs, DO H k n v) (hm : vs.length ≤ m) : DO H (k + 1) ((n + 2) * m + 3) (.ref a) := by
  obtain ⟨ds, b, p1, p2, p3, p4⟩ := DO.all hv
  refine ⟨.list ds, .lst h b, by rw [PyData.showable]; exact p1, by rw [PyData.depth]; omega, ?_⟩
  rw [PyData.shown]
  have l := listText_len_le (PyData.shownAll ds)
  rw [PyData.shownAll_length, p4] at l
  have := Nat.mul_le_mul_left (n + 2) hm
  rw [Nat.add_mul] at this
  omega
theorem DO.dct {H : Hp} {a : Addr} (h : H a = some (.dK [])) : DO H 1 30 (.ref a) := ⟨_, .dct h, by decide +kernel, by decide +kernel, by decide +kernel⟩
theorem DO.non {H : Hp} : DO H 0 30 .non := ⟨_, .non, by decide +kernel, by decide +kernel, by decide +kernel⟩
theorem DO.bl {H : Hp} (b : Bool) : DO H 0 30 (.bl b) := ⟨_, .bl b, by cases b <;> decide +kernel, by cases b <;> decide +kernel, by cases b <;> decide +kernel⟩
theorem DO.small {H : Hp} {i : Int} (h : i.natAbs < 10 ^ 12) : DO H 0 30 (.int i) := by
  refine ⟨_, .int i, ?_, Nat.zero_le _, Nat.le_trans (PyData.shown_int_le h) (by decide)⟩
  rw [PyData.showable]
  refine decide_eq_true (Nat.lt_of_le_of_lt (m := 40) ?_ (by decide))
  rcases Nat.eq_zero_or_pos i.natAbs with z | z
  · rw [z]; decide
  · exact Nat.le_of_lt_succ ((Nat.log2_lt (by omega)).mpr (Nat.lt_of_lt_of_le h (by decide)))
theorem DO.big {H : Hp} {i : Int} (h : i = 10 ^ 20 ∨ i = -10 ^ 20) : DO H 0 30 (.int i) := by
  rcases h with rfl | rfl
  · exact ⟨_, .int _, by decide +kernel, by decide +kernel, by decide +kernel⟩
  · exact ⟨_, .int _, by decide +kernel, by decide +kernel, by decide +kernel⟩
end Sm
namespace Sm
open PySem L2 SmSort
theorem da_ty {H : Hp} {v : V} {d : PyData} (h : DA H v d) : ∃ t, tyS H v = some t := by
  cases h with
  | lst h _ => exact ⟨_, tyS_lst h⟩
  | tup h _ => exact ⟨_, tyS_tup h⟩
  | dct h => exact ⟨"dict", by simp only [tyS, h]⟩
  | _ => exact ⟨_, rfl⟩
theorem das_mem {H : Hp} {vs : List V} {ds : List PyData} (h : DAs H vs ds) {x : V} (hx : x ∈ vs) : ∃ d, DA H x d := by
  obtain ⟨i, hi, rfl⟩ := List.getElem_of_mem hx
  obtain ⟨d, _, a⟩ := h.get (i := i) (List.getElem?_eq_getElem hi)
  exact ⟨d, a⟩
theorem da_list {H : Hp} {v : V} {d : PyData} (h : DA H v d) : (∃ p xs, v = .ref p ∧ H p = some (.lst xs) ∧ ∀ x ∈ xs, ∃ d, DA H x d) ∨ ((∃ t, tyS H v = some t ∧ isSub t "list" = false) ∧ ∀ p xs, v = .ref p → H p ≠ some (.lst xs)) := by
  cases h with
  | lst h r => exact .inl ⟨_, _, rfl, h, fun x hx => das_mem r hx⟩
  | tup h _ => exact .inr ⟨⟨_, tyS_tup h, rfl⟩, fun p xs e z => by cases e; rw [h] at z; cases z⟩
  | dct h => exact .inr ⟨⟨"dict", by simp only [tyS, h], rfl⟩, fun p xs e z => by cases e; rw [h] at z; cases z⟩
  | _ => exact .inr ⟨⟨_, rfl, rfl⟩, fun p xs e z => by cases e⟩
theorem da_tup {H : Hp} {v : V} {d : PyData} (h : DA H v d) : (∃ p xs, v = .ref p ∧ H p = some (.tup xs) ∧ ∀ x ∈ xs, ∃ d, DA H x d) ∨ ((∃ t, tyS H v = some t ∧ isSub t "tuple" = false) ∧ ∀ p xs, v = .ref p → H p ≠ some (.tup xs)) := by
  cases h with
  | tup h r => exact .inl ⟨_, _, rfl, h, fun x hx => das_mem r hx⟩
  | lst h _ => exact .inr ⟨⟨_, tyS_lst h, rfl⟩, fun p xs e z => by cases e; rw [h] at z; cases z⟩
  | dct h => exact .inr ⟨⟨"dict", by simp only [tyS, h], rfl⟩, fun p xs e z => by cases e; rw [h] at z; cases z⟩
  | _ => exact .inr ⟨⟨_, rfl, rfl⟩, fun p xs e z => by cases e⟩
def roomsV (H : Hp) : V → Bool
  | .ref p => match H p with
    | some (.lst xs) => decide (1 ≤ xs.length) && (decide (xs.length ≤ 12) && xs.all (inB 0 99))
    | _ => false
  | _ => false
def meetV (w : Int) (H : Hp) : V → Bool
  | .ref t => match H t with
    | some (.tup [a, b, c, e]) => inB 0 (w - 1) a && (inB 0 (w - 1) b && (!decide (a = b) && (inB 1 1000000000 c && inB 1 99 e)))
    | _ => false
  | _ => false
theorem roomsV_no {H : Hp} {v : V} (h : ∀ p xs, v = .ref p → H p ≠ some (.lst xs)) : roomsV H v = false := by
  unfold roomsV
  split
  · split
    · exact absurd (by assumption) (h _ _ rfl)
    · rfl
  · rfl
theorem roomsV_yes {H : Hp} {p : Addr} {xs : List V} (h : H p = some (.lst xs)) : roomsV H (.ref p) = (decide (1 ≤ xs.length) && (decide (xs.length ≤ 12) && xs.all (inB 0 99))) := by
  simp only [roomsV, h]
theorem meetV_no {w : Int} {H : Hp} {v : V} (h : ∀ p xs, v = .ref p → H p = some (.tup xs) → xs.length ≠ 4) : meetV w H v = false := by
  unfold meetV
  split
  · split
    · exact absurd rfl (h _ _ rfl (by assumption))
    · rfl
  · rfl
theorem meetV_yes {w : Int} {H : Hp} {t : Addr} {a b c e : V} (h : H t = some (.tup [a, b, c, e])) : meetV w H (.ref t) = (inB 0 (w - 1) a && (inB 0 (w - 1) b && (!decide (a = b) && (inB 1 1000000000 c && inB 1 99 e)))) := by
  simp only [meetV, h]
def shortV (H : Hp) (v : V) : Prop := ∀ p xs, v = .ref p → H p = some (.lst xs) → xs.length ≤ 1000
def spAreR3 : Sp := fun vs H Q _ => ∃ v d, vs = [v] ∧ DA H v d ∧ shortV H v ∧ ∀ H', Same H H' → Q (.bl (roomsV H v)) H'
def spMeet3 : Sp := fun vs H Q _ => ∃ w v d, vs = [.int w, v] ∧ DA H v d ∧ Q (.bl (meetV w H v)) H
def RoomsAt (H : Hp) (pr : Addr) (rooms : List Int) : Prop := H pr = some (.lst (List.map V.int rooms)) ∧ 1 ≤ rooms.length ∧ rooms.length ≤ 12 ∧ ∀ r ∈ rooms, (0 : Int) ≤ r ∧ r ≤ 99
def badRows (w : Int) (H : Hp) (m : V) : Prop := ∀ p xs, m = .ref p → H p = some (.lst xs) → xs.length ≤ 60 → ∃ x ∈ xs, meetV w H x = false
def Ref3 (H : Hp) (r m : V) : Prop :=
  ((∃ d, DA H r d) ∧ shortV H r ∧ roomsV H r = false) ∨
  (∃ pr rooms, r = .ref pr ∧ RoomsAt H pr rooms ∧ (((∃ d, DA H m d) ∧ shortV H m ∧ badRows rooms.length H m) ∨
    ∃ pm fs, m = .ref pm ∧ ListAt H pm fs ∧ fs.length ≤ 60 ∧ RawE rooms.length (fs.map (·.2)) ∧ ¬ (fs.map (·.2)).Pairwise apt))
def spMade3 (C T : Addr) (lp : Pos) : Sp := fun vs H Q E => spMade T lp vs H Q E ∨ ∃ r m, vs = [r, m] ∧ Ref3 H r m ∧ ∀ H', Same H H' → E (.ref C) none H'
def spMarks3 (T : Addr) (lp : Pos) : Sp := fun vs H Q _ =>
  (∃ pr pm rooms fs, vs = [.ref pr, .ref pm] ∧ RoomsAt H pr rooms ∧ ListAt H pm fs ∧ Raw rooms.length (fs.map (·.2)) ∧ MT T lp lamQ H ∧ ∀ l H', But T H H' → MT T lp lamQ H' → H' l = some (.lst []) → l ≠ T → Q (.ref l) H') ∨
  ∃ r m, vs = [r, m] ∧ Ref3 H r m ∧ ∀ l H', Same H H' → H' l = some (.lst [.bl true, .bl true, .bl false, .bl false]) → Q (.ref l) H'
theorem da_rooms {H : Hp} {pr : Addr} {rooms : List Int} (h : RoomsAt H pr rooms) : DA H (.ref pr) (.list (rooms.map PyData.int)) ∧ shortV H (.ref pr) ∧ roomsV H (.ref pr) = true := by
  obtain ⟨h, h1, h2, h3⟩ := h
  refine ⟨.lst h (DAs.ints _), fun p xs e z => ?_, ?_⟩
  · cases e; rw [h] at z; cases z; rw [List.length_map]; omega
  · rw [roomsV_yes h, List.length_map, decide_eq_true h1, decide_eq_true h2, Bool.true_and, Bool.true_and, List.all_eq_true]
    intro x hx
    obtain ⟨i, hi, rfl⟩ := List.mem_map.mp hx
    obtain ⟨a, b⟩ := h3 i hi
    simp [inB, a, b]
theorem da_row {H : Hp} {w : Int} {r : Addr × M4} (h : H r.1 = some (.tup [.int r.2.lo, .int r.2.hi, .int r.2.t, .int r.2.m])) (e : 0 ≤ r.2.lo ∧ r.2.lo < w ∧ 0 ≤ r.2.hi ∧ r.2.hi < w ∧ r.2.lo ≠ r.2.hi ∧ 1 ≤ r.2.t ∧ r.2.t ≤ 1000000000 ∧ 1 ≤ r.2.m ∧ r.2.m ≤ 99) : (∃ d, DA H (.ref r.1) d) ∧ meetV w H (.ref r.1) = true := by
  obtain ⟨a1, a2, a3, a4, a5, a6, a7, a8, a9⟩ := e
  refine ⟨⟨_, .tup h (DAs.ints [r.2.lo, r.2.hi, r.2.t, r.2.m])⟩, ?_⟩
  rw [meetV_yes h]
  have b2 : r.2.lo ≤ w - 1 := by omega
  have b4 : r.2.hi ≤ w - 1 := by omega
  simp [inB, a1, b2, a3, b4, a5, a6, a7, a8, a9]
end Sm
namespace Sm
open PySem L2 SmSort
theorem four3 {xs : List V} (h : xs.length = 4) : ∃ x0 x1 x2 x3, xs = [x0, x1, x2, x3] := by
  match xs, h with
  | [x0, x1, x2, x3], _ => exact ⟨x0, x1, x2, x3, rfl⟩
theorem meetV_same {w : Int} {H H' : Hp} {v : V} {d : PyData} (h : DA H v d) (s : Same H H') : meetV w H' v = meetV w H v := by
  rcases da_tup h with ⟨p, xs, rfl, hp, _⟩ | ⟨_, no⟩
  · simp only [meetV, hp, s _ _ hp]
  · rw [meetV_no fun p ys e e' => absurd e' (no p ys e)]
    rcases da_tup (h.same s) with ⟨p, xs, rfl, hp, _⟩ | ⟨_, no'⟩
    · exfalso
      cases h with
      | lst h _ => rw [s _ _ h] at hp; cases hp
      | tup h _ => exact no _ _ rfl h
      | dct h => rw [s _ _ h] at hp; cases hp
    · exact meetV_no fun p ys e e' => absurd e' (no' p ys e)
theorem roomsV_same {H H' : Hp} {v : V} {d : PyData} (h : DA H v d) (s : Same H H') : roomsV H' v = roomsV H v := by
  rcases da_list h with ⟨p, xs, rfl, hp, _⟩ | ⟨_, no⟩
  · rw [roomsV_yes hp, roomsV_yes (s _ _ hp)]
  · rw [roomsV_no no]
    rcases da_list (h.same s) with ⟨p, xs, rfl, hp, _⟩ | ⟨_, no'⟩
    · exfalso
      cases h with
      | lst h _ => exact no _ _ rfl h
      | tup h _ => rw [s _ _ h] at hp; cases hp
      | dct h => rw [s _ _ h] at hp; cases hp
    · exact roomsV_no no'
theorem da_back {H H' : Hp} {p : Addr} {xs : List V} {d : PyData} (h : DA H (.ref p) d) (s : Same H H') (e : H' p = some (.lst xs)) : H p = some (.lst xs) := by
  cases h with
  | lst h _ => rw [s _ _ h] at e; cases e; exact h
  | tup h _ => rw [s _ _ h] at e; cases e
  | dct h => rw [s _ _ h] at e; cases e
theorem short_same {H H' : Hp} {v : V} {d : PyData} (h : DA H v d) (s : Same H H') (k : shortV H v) : shortV H' v := fun p xs e e' => by
  subst e; exact k p xs rfl (da_back h s e')
theorem RoomsAt.same {H H' : Hp} {pr : Addr} {rooms : List Int} (h : RoomsAt H pr rooms) (s : Same H H') : RoomsAt H' pr rooms := ⟨s _ _ h.1, h.2⟩
theorem Ref3.same {H H' : Hp} {r m : V} (h : Ref3 H r m) (s : Same H H') : Ref3 H' r m := by
  rcases h with ⟨⟨d, hd⟩, sh, no⟩ | ⟨pr, rooms, rfl, ra, ⟨⟨d, hd⟩, sh, bad⟩ | ⟨pm, fs, rfl, hL, n, raw, bad⟩⟩
  · exact .inl ⟨⟨d, hd.same s⟩, short_same hd s sh, by rw [roomsV_same hd s]; exact no⟩
  · refine .inr ⟨pr, rooms, rfl, ra.same s, .inl ⟨⟨d, hd.same s⟩, short_same hd s sh, fun p xs e e' l => ?_⟩⟩
    subst e
    have e0 := da_back hd s e'
    obtain ⟨x, hx, no⟩ := bad p xs rfl e0 l
    cases hd with
    | lst h r =>
      rw [e0] at h; cases h
      obtain ⟨d', k'⟩ := das_mem r hx
      exact ⟨x, hx, by rw [meetV_same k' s]; exact no⟩
    | tup h _ => rw [e0] at h; cases h
    | dct h => rw [e0] at h; cases h
  · exact .inr ⟨pr, rooms, rfl, ra.same s, .inr ⟨pm, fs, rfl, hL.same s, n, raw, bad⟩⟩
theorem inB_int {lo hi : Int} {x : V} (h : inB lo hi x = true) : ∃ i, x = .int i := by
  cases x with
  | int i => exact ⟨i, rfl⟩
  | _ => cases h
end Sm
namespace Sm
open PySem L2 SmSort
def spBadR3 : Sp := fun vs H Q _ => ∃ p lr rooms, vs = [.ref p, .ref lr] ∧ Purse H p ∧ lr ≠ p ∧ RoomsAt H lr rooms ∧ ∀ v H', Go p H H' → DO (hid p H') 2 1000 v → shortV H' v → roomsV H' v = false → Q v H'
theorem flat_no {H : Hp} {v : V} (h : flatV v = true) : (∀ p xs, v = .ref p → H p ≠ some (.lst xs)) := fun p xs e _ => by rw [e] at h; cases h
theorem short_no {H : Hp} {v : V} (h : ∀ p xs, v = .ref p → H p ≠ some (.lst xs)) : shortV H v := fun p xs e e' => absurd e' (h p xs e)
theorem str_do {H : Hp} (z : Str) (h : (PyData.str z).shown.length ≤ 30) : DO H 0 30 (.str z) := ⟨_, .str z, rfl, Nat.zero_le _, h⟩
def spBadM3 : Sp := fun vs H Q _ => ∃ p t w m, vs = [.ref p, .ref t, .int w] ∧ Purse H p ∧ H t = some (.tup [.int (m : M4).lo, .int m.hi, .int m.t, .int m.m]) ∧ (0 ≤ m.lo ∧ m.lo < w ∧ 0 ≤ m.hi ∧ m.hi < w ∧ m.lo ≠ m.hi ∧ 1 ≤ m.t ∧ m.t ≤ 1000000000 ∧ 1 ≤ m.m ∧ m.m ≤ 99 ∧ w ≤ 12) ∧ ∀ v H', Go p H H' → DO (hid p H') 2 1000 v → meetV w H' v = false → Q v H'
theorem big_no {w : Int} (h : w ≤ 12) : inB 0 (w - 1) (.int (10 ^ Int.toNat 20)) = false := by
  have : ¬ (10 : Int) ^ Int.toNat 20 ≤ w - 1 := by
    rw [show (10 : Int) ^ Int.toNat 20 = 100000000000000000000 from by decide]; omega
  show (decide ((0 : Int) ≤ 10 ^ Int.toNat 20) && decide ((10 : Int) ^ Int.toNat 20 ≤ w - 1)) = false
  rw [decide_eq_false this, Bool.and_false]
end Sm
namespace Sm
open PySem L2 SmSort
def BadM3 (w : Int) (H : Hp) (m : V) : Prop := badRows w H m ∨ ∃ pm fs, m = .ref pm ∧ ListAt H pm fs ∧ fs.length ≤ 60 ∧ RawE w (fs.map (·.2)) ∧ ¬ (fs.map (·.2)).Pairwise apt
def spBadRows3 : Sp := fun vs H Q _ => ∃ p lm w fs, vs = [.ref p, .ref lm, .int w] ∧ Purse H p ∧ lm ≠ p ∧ ListAt H lm fs ∧ 1 ≤ fs.length ∧ fs.length ≤ 58 ∧ RawE w (fs.map (·.2)) ∧ 2 ≤ w ∧ w ≤ 12 ∧ ∀ m H', Go p H H' → DO (hid p H') 3 70000 m → shortV H' m → BadM3 w H' m → Q m H'
theorem twice_no {A B : List M4} {r x : M4} (h : r ∈ A ++ B) (e : r.t = x.t) (n : ¬ apart r x) : ¬ (A ++ [x] ++ B).Pairwise apt := fun pw => by
  rw [List.pairwise_append] at pw
  obtain ⟨p1, _, p3⟩ := pw
  rcases List.mem_append.mp h with h | h
  · exact n ((List.pairwise_append.mp p1).2.2 r h x (List.mem_singleton.mpr rfl) e)
  · exact n (apart.symm (p3 x (List.mem_append_right _ (List.mem_singleton.mpr rfl)) r h e.symm))
theorem row_do {p : Addr} {H : Hp} {w : Int} {r : Addr × M4} (h : H r.1 = some (.tup [.int r.2.lo, .int r.2.hi, .int r.2.t, .int r.2.m])) (np : r.1 ≠ p) (w12 : w ≤ 12) (e : 0 ≤ r.2.lo ∧ r.2.lo < w ∧ 0 ≤ r.2.hi ∧ r.2.hi < w ∧ r.2.lo ≠ r.2.hi ∧ 1 ≤ r.2.t ∧ r.2.t ≤ 1000000000 ∧ 1 ≤ r.2.m ∧ r.2.m ≤ 99) : DO (hid p H) 2 1000 (.ref r.1) := by
  obtain ⟨a1, a2, a3, a4, a5, a6, a7, a8, a9⟩ := e
  refine (DO.tup (k := 0) (n := 30) (m := 4) (vs := [.int r.2.lo, .int r.2.hi, .int r.2.t, .int r.2.m]) (by rw [hid_ne np]; exact h) (fun x hx => ?_) (Nat.le_refl 4)).mono (by decide) (by decide)
  simp only [List.mem_cons, List.not_mem_nil, or_false] at hx
  rcases hx with rfl | rfl | rfl | rfl <;> exact DO.small (by omega)
theorem rows_do {p l : Addr} {H : Hp} {w : Int} {fs : List (Addr × M4)} (pu : Purse H p) (np : l ≠ p) (h : ListAt H l fs) (n : fs.length ≤ 61) (w12 : w ≤ 12) (raw : RawE w (fs.map (·.2))) : DO (hid p H) 3 70000 (.ref l) := by
  refine (DO.lst (k := 2) (n := 1000) (m := 61) (by rw [hid_ne np]; exact h.1) (fun x hx => ?_) (by rw [List.length_map]; exact n)).mono (by decide) (by decide)
  obtain ⟨r, hr, rfl⟩ := List.mem_map.mp hx
  exact row_do (h.2 r hr) (pu.tup (h.2 r hr)) w12 (raw r.2 (List.mem_map.mpr ⟨r, hr, rfl⟩))
end Sm
namespace Sm
open PySem L2 SmSort
theorem ok_two {a b : PyData} {n : Nat} (h1 : okD 2 1000 a) (h2 : okD 3 n b) (hn : n ≤ 100000) : (PyData.tuple [a, b]).showable = true ∧ (PyData.tuple [a, b]).depth ≤ 40 ∧ (PyData.tuple [a, b]).shown.length ≤ sizeLine := by
  obtain ⟨a1, a2, a3⟩ := h1
  obtain ⟨b1, b2, b3⟩ := h2
  refine ⟨?_, ?_, ?_⟩
  · rw [PyData.showable, PyData.showableAll, PyData.showableAll, PyData.showableAll, a1, b1]; rfl
  · rw [PyData.depth, PyData.depthAll, PyData.depthAll, PyData.depthAll]; omega
  · rw [PyData.shown]
    have l := tupleText_len_le (PyData.shownAll [a, b])
    rw [PyData.shownAll, PyData.shownAll, PyData.shownAll] at l ⊢
    simp only [List.map_cons, List.map_nil, List.sum_cons, List.sum_nil, List.length_cons, List.length_nil] at l
    have : sizeLine = 16777216 := sizeLine_eq
    omega
def mostF (k : Nat) : M4 := ⟨1, 0, 1 + (0 + (k : Int)) * (10 ^ Int.toNat 9 - 1) / 59, 1 + 98 * ((0 + (k : Int)) % 2)⟩
theorem most_raw : Raw 2 ((List.range 60).map mostF) := by
  have e9 : (10 : Int) ^ Int.toNat 9 - 1 = 999999999 := by decide
  refine ⟨by simp, fun r hr => ?_, ?_⟩
  · obtain ⟨k, hk, rfl⟩ := List.mem_map.mp hr
    have hk := List.mem_range.mp hk
    unfold mostF
    rw [e9]
    dsimp only
    omega
  · rw [List.pairwise_map]
    refine List.Pairwise.imp (R := fun a b : Nat => a < b) (fun {a b} lt e => ?_) List.pairwise_lt_range
    exfalso
    unfold mostF at e
    rw [e9] at e
    dsimp only at e
    omega
theorem good_raw {w : Int} {ms : List M4} (g : Good w ms) : Raw w ms := by
  refine ⟨g.few, fun r hr => ?_, g.order.imp fun {a b} h e => ?_⟩
  · have := g.each r hr; omega
  · rcases h with h | h
    · omega
    · exact h.2.2
theorem eq_flat3 {K : PySem.W.Frag} {H : Hp} {l d : Addr} {xs : List V} {Q : VK} {neg : Bool} (hf : ∀ x ∈ xs, flatV x = true ∧ eqV x x = true) (hl : H l = some (.lst xs)) (hd : H d = some (.lst xs)) (q : Q (.bl (if neg = true then !true else true)) H) : rEqv K neg (.ref l) (.ref d) H Q := by
  refine ⟨0, l, d, _, _, fun _ => true, true, by decide, rfl, rfl, .inl ⟨SqL.of hl, SqL.of hd⟩, by simp, fun i x y hx hy => ?_, q⟩
  rw [hx] at hy; cases hy
  have h := hf x (List.mem_of_getElem? hx)
  exact .inr ⟨h.1, h.1, h.2.symm⟩
theorem one_good : Good 2 [(⟨0, 1, 10 ^ Int.toNat 9, 99⟩ : M4)] := by
  have e9 : (10 : Int) ^ Int.toNat 9 = 1000000000 := by decide
  rw [e9]
  refine ⟨by simp, fun r hr => ?_, List.pairwise_singleton _ _⟩
  rw [List.mem_singleton.mp hr]
  decide
end Sm
namespace Sm
open PySem L2 SmSort
theorem SqL_but3 {K : PySem.W.Frag} {H H1 H2 : Hp} {a p : Addr} {xs : List V} (h : SqL K H a xs) (hp : H p = none) (h1 : SqL K H1 a xs) (b : But p H1 H2) : SqL K H2 a xs := by
  rcases h with h | h
  · have ne : a ≠ p := fun z => by
      rcases h with h | ⟨_, h⟩ <;> (rw [z, hp] at h; cases h)
    rcases h1 with h1 | h1
    · rcases h1 with h1 | ⟨o, h1⟩
      · exact .inl (.inl (b _ _ ne h1))
      · exact .inl (.inr ⟨o, b _ _ ne h1⟩)
    · exact .inr h1
  · exact .inr h
end Sm
namespace Sm
open PySem L2
theorem line9 : 1002 ≤ sizeLine := by rw [sizeLine_eq]; decide
end Sm

set_option Elab.async false
set_option linter.all false
set_option maxRecDepth 100000
set_option maxHeartbeats 4000000
namespace Sm
open PySem L2
def top (i : Nat) : Stmt := PySem.Challenge.pw_satchelmeet_k03_books_refused.main.body.getD i (.Pass ⟨0, 0, 0, 0⟩)
abbrev s__law_purse : Stmt := top 34
abbrev s__law_take : Stmt := top 35
abbrev s__law_rooms : Stmt := top 36
abbrev s__law_step : Stmt := top 37
abbrev s__law_meetings : Stmt := top 38
abbrev s__law_book : Stmt := top 39
abbrev s_is_whole : Stmt := top 21
abbrev s_is_within : Stmt := top 22
abbrev s_are_rooms : Stmt := top 29
abbrev s_is_meeting : Stmt := top 30
abbrev s_meets_twice_at_once : Stmt := top 31
abbrev s_lesser_first : Stmt := top 32
abbrev s_made_book : Stmt := top 28
abbrev s__law_bad_rooms : Stmt := top 40
abbrev s__law_bad_meeting : Stmt := top 41
abbrev s__law_bad_rows : Stmt := top 42
abbrev s__law_marks : Stmt := top 43
abbrev s_law : Stmt := top 44
def lamPos : Pos := ⟨60, 49, 60, 77⟩
set_option genInjectivity false
set_option genSizeOf false
structure Ad where
  a__law_purse : Addr
  d__law_purse : FuncData
  a__law_take : Addr
  d__law_take : FuncData
  a__law_rooms : Addr
  d__law_rooms : FuncData
  a__law_step : Addr
  d__law_step : FuncData
  a__law_meetings : Addr
  d__law_meetings : FuncData
  a__law_book : Addr
  d__law_book : FuncData
  a_is_whole : Addr
  d_is_whole : FuncData
  a_is_within : Addr
  d_is_within : FuncData
  a_are_rooms : Addr
  d_are_rooms : FuncData
  a_is_meeting : Addr
  d_is_meeting : FuncData
  a_meets_twice_at_once : Addr
  d_meets_twice_at_once : FuncData
  a_lesser_first : Addr
  d_lesser_first : FuncData
  a_made_book : Addr
  d_made_book : FuncData
  a__law_bad_rooms : Addr
  d__law_bad_rooms : FuncData
  a__law_bad_meeting : Addr
  d__law_bad_meeting : FuncData
  a__law_bad_rows : Addr
  d__law_bad_rows : FuncData
  a__law_marks : Addr
  d__law_marks : FuncData
  a_law : Addr
  d_law : FuncData
  tC : Addr
  tP : Addr
  c_HasIt : Addr
  c_MeetError : Addr
  c_NoBook : Addr
  c_NoClaim : Addr
  c_NoDay : Addr
  c_NoDeed : Addr
  c_NoLetter : Addr
  c_NoMeeting : Addr
  c_NoName : Addr
  c_NoPass : Addr
  c_NoRoom : Addr
  c_NoRow : Addr
  c_NoRule : Addr
  c_NoText : Addr
  c_NoWalker : Addr
  c_NotThere : Addr
  c_TooMany : Addr
  c_Twice : Addr
structure Tx (K : PySem.W.Frag) (mg : Str → Option Value) (a : Ad) (a_LAST_TIME : Tok) (a_MOST_WALKERS : Tok) (a_MOST_ROOM : Tok) (a_MOST_MEETINGS : Tok) (a_MOST_MANY : Tok) : Prop where
  F__law_purse : Fun K "_law_purse" "_law_purse" s__law_purse a.a__law_purse a.d__law_purse
  i__law_purse : Binds K a.d__law_purse ["_law_script", "_law_k"] []
  m__law_purse : mg "_law_purse" = some (.ref a.a__law_purse)
  k__law_purse : PySem.W.keepIn K (.ref a.a__law_purse) = true
  F__law_take : Fun K "_law_take" "_law_take" s__law_take a.a__law_take a.d__law_take
  i__law_take : Binds K a.d__law_take ["_law_purse_here", "_law_many"] []
  m__law_take : mg "_law_take" = some (.ref a.a__law_take)
  k__law_take : PySem.W.keepIn K (.ref a.a__law_take) = true
  F__law_rooms : Fun K "_law_rooms" "_law_rooms" s__law_rooms a.a__law_rooms a.d__law_rooms
  i__law_rooms : Binds K a.d__law_rooms ["_law_purse_here", "_law_walkers"] []
  m__law_rooms : mg "_law_rooms" = some (.ref a.a__law_rooms)
  k__law_rooms : PySem.W.keepIn K (.ref a.a__law_rooms) = true
  F__law_step : Fun K "_law_step" "_law_step" s__law_step a.a__law_step a.d__law_step
  i__law_step : Binds K a.d__law_step ["_law_purse_here"] []
  m__law_step : mg "_law_step" = some (.ref a.a__law_step)
  k__law_step : PySem.W.keepIn K (.ref a.a__law_step) = true
  F__law_meetings : Fun K "_law_meetings" "_law_meetings" s__law_meetings a.a__law_meetings a.d__law_meetings
  i__law_meetings : Binds K a.d__law_meetings ["_law_purse_here", "_law_walkers", "_law_most"] []
  m__law_meetings : mg "_law_meetings" = some (.ref a.a__law_meetings)
  k__law_meetings : PySem.W.keepIn K (.ref a.a__law_meetings) = true
  F__law_book : Fun K "_law_book" "_law_book" s__law_book a.a__law_book a.d__law_book
  i__law_book : Binds K a.d__law_book ["_law_purse_here", "_law_most_walkers", "_law_most_meetings"] []
  m__law_book : mg "_law_book" = some (.ref a.a__law_book)
  k__law_book : PySem.W.keepIn K (.ref a.a__law_book) = true
  F_is_whole : Fun K "is_whole" "is_whole" s_is_whole a.a_is_whole a.d_is_whole
  i_is_whole : Binds K a.d_is_whole ["thing"] []
  m_is_whole : mg "is_whole" = some (.ref a.a_is_whole)
  k_is_whole : PySem.W.keepIn K (.ref a.a_is_whole) = true
  F_is_within : Fun K "is_within" "is_within" s_is_within a.a_is_within a.d_is_within
  i_is_within : Binds K a.d_is_within ["thing", "least", "most"] []
  m_is_within : mg "is_within" = some (.ref a.a_is_within)
  k_is_within : PySem.W.keepIn K (.ref a.a_is_within) = true
  F_are_rooms : Fun K "are_rooms" "are_rooms" s_are_rooms a.a_are_rooms a.d_are_rooms
  i_are_rooms : Binds K a.d_are_rooms ["thing"] []
  m_are_rooms : mg "are_rooms" = some (.ref a.a_are_rooms)
  k_are_rooms : PySem.W.keepIn K (.ref a.a_are_rooms) = true
  F_is_meeting : Fun K "is_meeting" "is_meeting" s_is_meeting a.a_is_meeting a.d_is_meeting
  i_is_meeting : Binds K a.d_is_meeting ["walkers", "thing"] []
  m_is_meeting : mg "is_meeting" = some (.ref a.a_is_meeting)
  k_is_meeting : PySem.W.keepIn K (.ref a.a_is_meeting) = true
  F_meets_twice_at_once : Fun K "meets_twice_at_once" "meets_twice_at_once" s_meets_twice_at_once a.a_meets_twice_at_once a.d_meets_twice_at_once
  i_meets_twice_at_once : Binds K a.d_meets_twice_at_once ["meetings"] []
  m_meets_twice_at_once : mg "meets_twice_at_once" = some (.ref a.a_meets_twice_at_once)
  k_meets_twice_at_once : PySem.W.keepIn K (.ref a.a_meets_twice_at_once) = true
  F_lesser_first : Fun K "lesser_first" "lesser_first" s_lesser_first a.a_lesser_first a.d_lesser_first
  i_lesser_first : Binds K a.d_lesser_first ["meeting"] []
  m_lesser_first : mg "lesser_first" = some (.ref a.a_lesser_first)
  k_lesser_first : PySem.W.keepIn K (.ref a.a_lesser_first) = true
  F_made_book : Fun K "made_book" "made_book" s_made_book a.a_made_book a.d_made_book
  i_made_book : Binds K a.d_made_book ["rooms", "meetings"] []
  m_made_book : mg "made_book" = some (.ref a.a_made_book)
  k_made_book : PySem.W.keepIn K (.ref a.a_made_book) = true
  F__law_bad_rooms : Fun K "_law_bad_rooms" "_law_bad_rooms" s__law_bad_rooms a.a__law_bad_rooms a.d__law_bad_rooms
  i__law_bad_rooms : Binds K a.d__law_bad_rooms ["_law_purse_here", "_law_rooms_here"] []
  m__law_bad_rooms : mg "_law_bad_rooms" = some (.ref a.a__law_bad_rooms)
  k__law_bad_rooms : PySem.W.keepIn K (.ref a.a__law_bad_rooms) = true
  F__law_bad_meeting : Fun K "_law_bad_meeting" "_law_bad_meeting" s__law_bad_meeting a.a__law_bad_meeting a.d__law_bad_meeting
  i__law_bad_meeting : Binds K a.d__law_bad_meeting ["_law_purse_here", "_law_meeting", "_law_walkers"] []
  m__law_bad_meeting : mg "_law_bad_meeting" = some (.ref a.a__law_bad_meeting)
  k__law_bad_meeting : PySem.W.keepIn K (.ref a.a__law_bad_meeting) = true
  F__law_bad_rows : Fun K "_law_bad_rows" "_law_bad_rows" s__law_bad_rows a.a__law_bad_rows a.d__law_bad_rows
  i__law_bad_rows : Binds K a.d__law_bad_rows ["_law_purse_here", "_law_rows", "_law_walkers"] []
  m__law_bad_rows : mg "_law_bad_rows" = some (.ref a.a__law_bad_rows)
  k__law_bad_rows : PySem.W.keepIn K (.ref a.a__law_bad_rows) = true
  F__law_marks : Fun K "_law_marks" "_law_marks" s__law_marks a.a__law_marks a.d__law_marks
  i__law_marks : Binds K a.d__law_marks ["_law_rooms_here", "_law_rows"] []
  m__law_marks : mg "_law_marks" = some (.ref a.a__law_marks)
  k__law_marks : PySem.W.keepIn K (.ref a.a__law_marks) = true
  F_law : Fun K "law" "law" s_law a.a_law a.d_law
  i_law : Binds K a.d_law ["_law_script"] []
  m_law : mg "law" = some (.ref a.a_law)
  k_law : PySem.W.keepIn K (.ref a.a_law) = true
  b_ValueError : mg "ValueError" = none
  b_all : mg "all" = none
  b_bool : mg "bool" = none
  b_int : mg "int" = none
  b_isinstance : mg "isinstance" = none
  b_len : mg "len" = none
  b_list : mg "list" = none
  b_max : mg "max" = none
  b_min : mg "min" = none
  b_range : mg "range" = none
  b_repr : mg "repr" = none
  b_set : mg "set" = none
  b_sorted : mg "sorted" = none
  b_tuple : mg "tuple" = none
  t_hd : PySem.W.codeHdIn K a.tC a.tP = true
  t_cd : a.d_made_book.code = .ref a.tC
  m_HasIt : mg "HasIt" = some (.ref a.c_HasIt)
  m_MeetError : mg "MeetError" = some (.ref a.c_MeetError)
  m_NoBook : mg "NoBook" = some (.ref a.c_NoBook)
  m_NoClaim : mg "NoClaim" = some (.ref a.c_NoClaim)
  m_NoDay : mg "NoDay" = some (.ref a.c_NoDay)
  m_NoDeed : mg "NoDeed" = some (.ref a.c_NoDeed)
  m_NoLetter : mg "NoLetter" = some (.ref a.c_NoLetter)
  m_NoMeeting : mg "NoMeeting" = some (.ref a.c_NoMeeting)
  m_NoName : mg "NoName" = some (.ref a.c_NoName)
  m_NoPass : mg "NoPass" = some (.ref a.c_NoPass)
  m_NoRoom : mg "NoRoom" = some (.ref a.c_NoRoom)
  m_NoRow : mg "NoRow" = some (.ref a.c_NoRow)
  m_NoRule : mg "NoRule" = some (.ref a.c_NoRule)
  m_NoText : mg "NoText" = some (.ref a.c_NoText)
  m_NoWalker : mg "NoWalker" = some (.ref a.c_NoWalker)
  m_NotThere : mg "NotThere" = some (.ref a.c_NotThere)
  m_TooMany : mg "TooMany" = some (.ref a.c_TooMany)
  m_Twice : mg "Twice" = some (.ref a.c_Twice)
  x_NoBook : XCls K a.c_NoBook
  f_em : PySem.W.exmOne K (.ref a.c_NoBook) (.ref a.c_MeetError) = some true
  f_ve : PySem.W.kitOne K (.ref a.c_NoBook) (.type "ValueError") = some true
  f_ka : PySem.W.kitAny K (.ref a.c_NoBook) [.ref a.c_NoMeeting, .ref a.c_NoDeed, .ref a.c_NoLetter, .ref a.c_NoWalker, .ref a.c_NotThere, .ref a.c_HasIt, .ref a.c_NoPass, .ref a.c_NoRoom] = some false
  f_kb : PySem.W.kitAny K (.ref a.c_NoBook) [.ref a.c_NoRule, .ref a.c_TooMany, .ref a.c_NoDay, .ref a.c_NoClaim, .ref a.c_NoText, .ref a.c_NoRow, .ref a.c_NoName, .ref a.c_Twice] = some false
  c_LAST_TIME : mg "LAST_TIME" = some (.int 1000000000 a_LAST_TIME)
  c_MOST_WALKERS : mg "MOST_WALKERS" = some (.int 12 a_MOST_WALKERS)
  c_MOST_ROOM : mg "MOST_ROOM" = some (.int 99 a_MOST_ROOM)
  c_MOST_MEETINGS : mg "MOST_MEETINGS" = some (.int 60 a_MOST_MEETINGS)
  c_MOST_MANY : mg "MOST_MANY" = some (.int 99 a_MOST_MANY)
section
variable {P : Program} {w : World} {K : PySem.W.Frag} {mg : Str → Option Value} {base : Heap} {a : Ad} {t_LAST_TIME : Tok} {t_MOST_WALKERS : Tok} {t_MOST_ROOM : Tok} {t_MOST_MEETINGS : Tok} {t_MOST_MANY : Tok}
theorem sc__law_purse : FnScope ["_law_script", "_law_k", "_law_cell", "_law_left"] ["_law_script", "_law_k"] (defScope s__law_purse) := ⟨rfl, rfl, rfl, by decide +kernel, rfl, by decide +kernel, by decide +kernel⟩
theorem ok__law_purse (T : Tx K mg a t_LAST_TIME t_MOST_WALKERS t_MOST_ROOM t_MOST_MEETINGS t_MOST_MANY) (B : BmAt mg base) : FnOk P w K mg base CX0 1 a.a__law_purse a.d__law_purse ["_law_script", "_law_k"] (spPurse K) := by
  refine T.F__law_purse.ok sc__law_purse (fun vs H Q E h => ?_) (fun cdv A outer s H vs Q E hr h => ?_)
  · obtain ⟨a, ns, k, rfl, _⟩ := h; rfl
  · have nd := sc__law_purse.nd
    have hu := hr.units
    obtain ⟨sa, ns, k, rfl, hS, hk, q⟩ := h
    refine ⟨_, (@bl_out _ _ _ (@bl_c _ _ _ _ _ _ (ps_set (i := 2) nd rfl (by first | exact Or.inl rfl | exact Or.inr rfl) pe_int) (@bl_c _ _ _ _ _ _ (@ps_if _ _ _ _ _ _ _ _ (@pt_cmpR _ _ _ _ _ _ _ _ op_lt (pv 1) (pe_callB (call_len_seq' rfl) (by rfl) T.b_len PySem.boot_len (@pa_out _ _ _ (@pa_c _ _ _ _ _ (pv 0) pa_n rfl))) (nomark _)) (@bl_out _ _ _ (@bl_1 _ _ _ (ps_set (i := 2) nd rfl (by first | exact Or.inl rfl | exact Or.inr rfl) (@pe_ix _ _ _ _ _ _ _ (ix_list' rfl) (pv 0) (pv 1) (fun _ _ => rfl))))) pss_nil) (@bl_c _ _ _ _ _ _ (ps_set (i := 3) nd rfl (by first | exact Or.inl rfl | exact Or.inr rfl) pe_int) (@bl_c _ _ _ _ _ _ (@ps_if _ _ _ _ _ _ _ _ (@pt_cmpR _ _ _ _ _ _ _ _ op_lt (pv 2) pe_int (nomark _)) (@bl_out _ _ _ (@bl_1 _ _ _ (ps_set (i := 3) nd rfl (by first | exact Or.inl rfl | exact Or.inr rfl) (@pe_op _ _ _ _ _ _ _ _ op_sub (@pe_un _ _ _ _ _ _ un_neg pe_int) (pv 2))))) pss_nil) (@bl_c _ _ _ _ _ _ (@ps_if _ _ _ _ _ _ _ _ (@pt_cmpR _ _ _ _ _ _ _ _ op_ge (pv 2) (@pe_op _ _ _ _ _ _ _ _ op_pow pe_int pe_int) (nomark _)) (@bl_out _ _ _ (@bl_1 _ _ _ (ps_set (i := 3) nd rfl (by first | exact Or.inl rfl | exact Or.inr rfl) (pv 2)))) pss_nil) (@bl_1 _ _ _ (@ps_ret _ _ _ _ (@pe_lst _ _ _ _ (@pa_out _ _ _ (@pa_c _ _ _ _ _ (pv 3) (@pa_c _ _ _ _ _ (@pe_op _ _ _ _ _ _ _ _ op_mod (@pe_op _ _ _ _ _ _ _ _ op_add (@pe_op _ _ _ _ _ _ _ _ op_add (@pe_op _ _ _ _ _ _ _ _ op_mul (pv 2) pe_int) (@pe_op _ _ _ _ _ _ _ _ op_mul (pv 1) pe_int)) pe_int) pe_int) (@pa_c _ _ _ _ _ pe_int pa_n rfl) rfl) rfl))))))))))), ?_⟩
    have c18 : CPow 10 18 := ⟨by decide, by decide, by decide⟩
    have s3 : 3 ≤ sizeLine := by rw [sizeLine_eq]; decide
    have fin : ∀ (x y : Int) p, H p = none → Q (.ref p) (upd H p (.lst [.int x, .int y, .int 0])) := fun x y p hp => q p _ hp ⟨x, y, 0, upd_same⟩ (same_new hp)
    have c69 : ∀ x : Int, CMul x 69 := fun x => .inr ⟨by decide, by decide⟩
    have c405 : ∀ x : Int, CMul x 40503 := fun x => .inr ⟨by decide, by decide⟩
    refine ⟨_, rfl, _, rfl, sa, _, rfl, .inl hS, _, _, rfl, rfl, _, rfl, iteN (fun σ H1 => ∃ c : Int, σ = [some (.ref sa), some (.int k), some (.int c), none] ∧ H = H1) ?_ (fun c k0 => ?_) (fun c => ⟨0, rfl, rfl⟩)⟩
    · rintro σ H1 ⟨c, rfl, rfl⟩
      refine ⟨_, rfl, _, _, rfl, rfl, _, rfl, iteN (fun σ H1 => ∃ d : Int, σ = [some (.ref sa), some (.int k), some (.int c), some (.int d)] ∧ H = H1) ?_ (fun z k0 => ?_) (fun z => ⟨0, rfl, rfl⟩)⟩
      · rintro σ H1 ⟨d, rfl, rfl⟩
        refine ⟨_, rfl, _, _, rfl, rfl, c18, _, _, rfl, rfl, _, rfl, iteN (fun σ H1 => ∃ d : Int, σ = [some (.ref sa), some (.int k), some (.int c), some (.int d)] ∧ H = H1) ?_ (fun z k0 => ⟨_, rfl, k0 _ _ ⟨c, rfl, rfl⟩⟩) (fun z => ⟨d, rfl, rfl⟩)⟩
        rintro σ H1 ⟨d, rfl, rfl⟩
        exact ⟨_, rfl, _, rfl, _, _, rfl, rfl, c69 _, _, rfl, _, _, rfl, rfl, c405 _, _, _, rfl, rfl, _, _, rfl, rfl, _, _, rfl, rfl, (by show (0 : Int) < 2147483647; decide), s3, fin _ _⟩
      · exact ⟨_, rfl, _, rfl, _, _, rfl, rfl, k0 _ _ ⟨_, rfl, rfl⟩⟩
    · have hk2 : k < ns.length := by
        have := of_decide_eq_true c
        rw [List.length_map] at this; omega
      exact ⟨_, rfl, _, rfl, sa, _, _, _, rfl, rfl, hS, atI_nat (v := V.int ns[k]) (by simp [hk2]), k0 _ _ ⟨_, rfl, rfl⟩⟩
theorem sc__law_take : FnScope ["_law_purse_here", "_law_many", "_law_digit", "_law_mixed"] ["_law_purse_here", "_law_many"] (defScope s__law_take) := ⟨rfl, rfl, rfl, by decide +kernel, rfl, by decide +kernel, by decide +kernel⟩
theorem ok__law_take (T : Tx K mg a t_LAST_TIME t_MOST_WALKERS t_MOST_ROOM t_MOST_MEETINGS t_MOST_MANY) (B : BmAt mg base) : FnOk P w K mg base CX0 1 a.a__law_take a.d__law_take ["_law_purse_here", "_law_many"] (spTake) := by
  refine T.F__law_take.ok sc__law_take (fun vs H Q E h => ?_) (fun cdv A outer s H vs Q E hr h => ?_)
  · obtain ⟨p, n, rfl, _⟩ := h; rfl
  · have nd := sc__law_take.nd
    have hu := hr.units
    obtain ⟨p, n, rfl, n0, n1, ⟨x, y, z, hp⟩, q⟩ := h
    refine ⟨_, (@bl_out _ _ _ (@bl_c _ _ _ _ _ _ (@ps_if _ _ _ _ _ _ _ _ (@pt_cmpR _ _ _ _ _ _ _ _ op_gt (@pe_ix _ _ _ _ _ _ _ (ix_list' rfl) (pv 0) pe_int (fun _ _ => rfl)) pe_int (nomark _)) (@bl_out _ _ _ (@bl_c _ _ _ _ _ _ (ps_set (i := 2) nd rfl (by first | exact Or.inl rfl | exact Or.inr rfl) (@pe_op _ _ _ _ _ _ _ _ op_mod (@pe_ix _ _ _ _ _ _ _ (ix_list' rfl) (pv 0) pe_int (fun _ _ => rfl)) (pv 1))) (@bl_c _ _ _ _ _ _ (ps_asg (@pe_op _ _ _ _ _ _ _ _ op_fdivB (@pe_ix _ _ _ _ _ _ _ (ix_list' rfl) (pv 0) pe_int (fun _ _ => rfl)) (pv 1)) (pg_sub (pv 0) pe_int set_list)) (@bl_1 _ _ _ (@ps_ret _ _ _ _ (pv 2)))))) pss_nil) (@bl_c _ _ _ _ _ _ (ps_augS (pv 0) pe_int (get_list rfl) pe_int ip_add set_list) (@bl_c _ _ _ _ _ _ (ps_set (i := 3) nd rfl (by first | exact Or.inl rfl | exact Or.inr rfl) (@pe_op _ _ _ _ _ _ _ _ op_mod (@pe_op _ _ _ _ _ _ _ _ op_mul (@pe_op _ _ _ _ _ _ _ _ op_add (@pe_ix _ _ _ _ _ _ _ (ix_list' rfl) (pv 0) pe_int (fun _ _ => rfl)) (@pe_op _ _ _ _ _ _ _ _ op_mul (@pe_ix _ _ _ _ _ _ _ (ix_list' rfl) (pv 0) pe_int (fun _ _ => rfl)) pe_int)) pe_int) pe_int)) (@bl_c _ _ _ _ _ _ (ps_set (i := 3) nd rfl (by first | exact Or.inl rfl | exact Or.inr rfl) (@pe_op _ _ _ _ _ _ _ _ op_mod (@pe_op _ _ _ _ _ _ _ _ op_add (@pe_op _ _ _ _ _ _ _ _ op_add (@pe_op _ _ _ _ _ _ _ _ op_mul (pv 3) (pv 3)) (@pe_op _ _ _ _ _ _ _ _ op_mul (@pe_ix _ _ _ _ _ _ _ (ix_list' rfl) (pv 0) pe_int (fun _ _ => rfl)) pe_int)) (@pe_ix _ _ _ _ _ _ _ (ix_list' rfl) (pv 0) pe_int (fun _ _ => rfl))) pe_int)) (@bl_1 _ _ _ (@ps_ret _ _ _ _ (@pe_op _ _ _ _ _ _ _ _ op_mod (@pe_op _ _ _ _ _ _ _ _ op_fdivB (@pe_op _ _ _ _ _ _ _ _ op_mod (@pe_op _ _ _ _ _ _ _ _ op_mul (pv 3) pe_int) pe_int) pe_int) (pv 1))))))))), ?_⟩
    have hS : SqL K H p _ := SqL.of hp
    have cm : ∀ x c : Int, -(2 ^ 64) < c → c < 2 ^ 64 → CMul x c := fun x c h h' => .inr ⟨h, h'⟩
    refine ⟨_, rfl, p, _, _, _, rfl, rfl, hS, rfl, _, _, rfl, rfl, _, rfl, iteD (fun h1 => ?_) fun h1 => ?_⟩
    · refine ⟨_, rfl, p, _, _, _, rfl, rfl, hS, rfl, _, rfl, _, _, rfl, rfl, n0, ?_⟩
      refine ⟨_, rfl, p, _, _, _, rfl, rfl, hS, rfl, _, rfl, _, _, rfl, rfl, ⟨n0, n1⟩, _, rfl, p, _, _, 0, rfl, rfl, hp, rfl, ?_⟩
      exact ⟨_, rfl, q _ _ (Int.emod_nonneg _ (by omega)) (Int.emod_lt_of_pos _ n0) ⟨But.set, _, _, _, upd_same⟩⟩
    · refine ⟨_, rfl, p, _, _, _, rfl, rfl, hS, rfl, _, _, rfl, rfl, p, _, _, 2, rfl, rfl, hp, rfl, ?_⟩
      have h2 : (upd H p (HO.lst ([V.int x, V.int y, V.int z].set 2 (.int (z + 1))))) p = some (.lst [V.int x, V.int y, V.int (z + 1)]) := upd_same
      have b2 : But p H (upd H p (HO.lst ([V.int x, V.int y, V.int z].set 2 (.int (z + 1))))) := But.set
      generalize upd H p (HO.lst ([V.int x, V.int y, V.int z].set 2 (.int (z + 1)))) = H2 at h2 b2 ⊢
      have hS2 : SqL K H2 p _ := SqL.of h2
      have big : (2147483647 : Int) < 2 ^ 64 := by decide
      have low : -(2 : Int) ^ 64 < 0 := by decide
      have pos : (0 : Int) < 2147483647 := by decide
      refine ⟨_, rfl, p, _, _, _, rfl, rfl, hS2, rfl, _, rfl, p, _, _, _, rfl, rfl, hS2, rfl, _, _, rfl, rfl, cm _ _ (by decide) (by decide), _, _, rfl, rfl, _, _, rfl, rfl, cm _ _ (by decide) (by decide), _, _, rfl, rfl, (by show (0 : Int) < 2147483647; decide), ?_⟩
      have m0 := Int.emod_nonneg ((y + (z + 1) * 362437) * 48271) (show (2147483647 : Int) ≠ 0 by decide)
      have m1 := Int.emod_lt_of_pos ((y + (z + 1) * 362437) * 48271) pos
      refine ⟨_, rfl, _, rfl, _, _, rfl, rfl, .inl ⟨Int.lt_of_lt_of_le low m0, Int.lt_trans m1 big⟩, _, rfl, p, _, _, _, rfl, rfl, hS2, rfl, _, _, rfl, rfl, cm _ _ (by decide) (by decide), _, _, rfl, rfl, _, rfl, p, _, _, _, rfl, rfl, hS2, rfl, _, _, rfl, rfl, _, _, rfl, rfl, (by show (0 : Int) < 2147483629; decide), ?_⟩
      refine ⟨_, rfl, _, _, rfl, rfl, cm _ _ (by decide) (by decide), _, _, rfl, rfl, (by show (0 : Int) < 2147483563; decide), _, _, rfl, rfl, ⟨by decide, by decide⟩, _, rfl, _, _, rfl, rfl, n0, ?_⟩
      exact q _ _ (Int.emod_nonneg _ (by omega)) (Int.emod_lt_of_pos _ n0) ⟨b2, _, _, _, h2⟩
theorem sc__law_rooms : FnScope ["_law_purse_here", "_law_walkers", "_law_rooms_here", "_law_walker", "_law_room"] ["_law_purse_here", "_law_walkers"] (defScope s__law_rooms) := ⟨rfl, rfl, rfl, by decide +kernel, rfl, by decide +kernel, by decide +kernel⟩
theorem ok__law_rooms (T : Tx K mg a t_LAST_TIME t_MOST_WALKERS t_MOST_ROOM t_MOST_MEETINGS t_MOST_MANY) (B : BmAt mg base) : FnOk P w K mg base CX0 2 a.a__law_rooms a.d__law_rooms ["_law_purse_here", "_law_walkers"] (spRooms) := by
  have G__law_take := @ok__law_take P w _ _ base _ _ _ _ _ _ T B
  refine T.F__law_rooms.ok sc__law_rooms (fun vs H Q E h => ?_) (fun cdv A outer s H vs Q E hr h => ?_)
  · obtain ⟨p, n, rfl, _⟩ := h; rfl
  · have nd := sc__law_rooms.nd
    have hu := hr.units
    obtain ⟨p, n, rfl, hn, hp, q⟩ := h
    refine ⟨_, (@bl_out _ _ _ (@bl_c _ _ _ _ _ _ (ps_set (i := 2) nd rfl (by first | exact Or.inl rfl | exact Or.inr rfl) (@pe_lst _ _ _ _ pa_nil)) (@bl_c _ _ _ _ _ _ (ps_for PassesOwn.never rfl (pi_range1 rfl T.b_range (@pa_out _ _ _ (@pa_c _ _ _ _ _ (pv 1) pa_n rfl))) (pg_name (i := 3) nd rfl (by first | exact Or.inl rfl | exact Or.inr rfl)) (@bl_out _ _ _ (@bl_c _ _ _ _ _ _ (ps_set (i := 4) nd rfl (by first | exact Or.inl rfl | exact Or.inr rfl) (@pe_op _ _ _ _ _ _ _ _ op_fdivB (pe_call G__law_take (hr.mono (by decide)) rfl T.m__law_take T.k__law_take T.i__law_take .nil pass0 (@pa_out _ _ _ (@pa_c _ _ _ _ _ (pv 0) (@pa_c _ _ _ _ _ pe_int pa_n rfl) rfl))) pe_int)) (@bl_c _ _ _ _ _ _ (@ps_if _ _ _ _ _ _ _ _ (@pt_cmpR _ _ _ _ _ _ _ _ op_eq (pv 4) pe_int (nomark _)) (@bl_out _ _ _ (@bl_1 _ _ _ (ps_set (i := 4) nd rfl (by first | exact Or.inl rfl | exact Or.inr rfl) (pe_call G__law_take (hr.mono (by decide)) rfl T.m__law_take T.k__law_take T.i__law_take .nil pass0 (@pa_out _ _ _ (@pa_c _ _ _ _ _ (pv 0) (@pa_c _ _ _ _ _ pe_int pa_n rfl) rfl)))))) pss_nil) (@bl_1 _ _ _ (ps_expr (pe_bm PySem.F.plainAttrs_list PySem.F.slot_list_append PySem.F.type_list_append mt_append (pv 2) (@pa_out _ _ _ (@pa_c _ _ _ _ _ (pv 4) pa_n rfl))))))))) (@bl_1 _ _ _ (@ps_ret _ _ _ _ (pe_callTy (call_tuple_of) (by rfl) T.b_tuple PyProof.Rows.boot_tuple (@pa_out _ _ _ (@pa_c _ _ _ _ _ (pv 2) pa_n rfl)))))))), ?_⟩
    have line : 1001 ≤ sizeLine := by rw [sizeLine_eq]; decide
    refine ⟨Nat.zero_le _, fun l hl => ?_⟩
    have npl := hp.ne hl
    refine ⟨_, rfl, _, rfl, by omega, by omega, ?_⟩
    refine for_range (lo := 0) (n := n) (fun i σ H2 => ∃ v3 v4 rs, σ = [some (.ref p), some (.int n), some (.ref l), v3, v4] ∧ H2 l = some (.lst (List.map V.int rs)) ∧ rs.length = i ∧ (∀ r ∈ rs, (0 : Int) ≤ r ∧ r ≤ 99) ∧ Go p H H2)
      ⟨_, _, [], rfl, upd_same, rfl, (fun _ z => nomatch z), (Go.refl hp).new hl⟩ ?_ ?_
    · rintro i σ H2 hi ⟨v3, v4, rs, rfl, h2, hlen, hr, go⟩
      refine ⟨_, rfl, p, _, rfl, by decide, by decide, go.2, fun d H3 d0 d1 g3 => ⟨_, _, rfl, rfl, ⟨by decide, by decide⟩, ?_⟩⟩
      refine ⟨_, rfl, rfl, _, rfl, iteN (fun σ H4 => ∃ x : Int, σ = [some (.ref p), some (.int n), some (.ref l), some (.int (0 + (i : Int))), some (.int x)] ∧ 0 ≤ x ∧ x ≤ 99 ∧ Go p H2 H4) ?_ (fun c k0 => ⟨_, rfl, p, _, rfl, by decide, by decide, g3.2, fun e H4 e0 e1 g4 => k0 _ _ ⟨e, rfl, e0, by omega, g3.trans g4⟩⟩) (fun c => ⟨_, rfl, by omega, by omega, g3⟩)⟩
      rintro σ H4 ⟨x, rfl, x0, x1, g4⟩
      have h4 := g4.1 l _ npl h2
      refine ⟨_, rfl, .inl ⟨rfl, _, SqL.of h4⟩, _, rfl, l, _, _, rfl, rfl, h4, by rw [List.length_map]; omega, _, _, rs ++ [x], rfl, by rw [upd_same, List.map_append]; rfl, by simp [hlen], fun r hr' => ?_, ?_⟩
      · rcases List.mem_append.mp hr' with h | h
        · exact hr r h
        · cases List.mem_singleton.mp h; exact ⟨x0, x1⟩
      · have g2 := go.trans g4
        refine ⟨fun b u nb e => ?_, ?_⟩
        · rw [upd_ne (ne_of_none e hl)]; exact g2.1 b u nb e
        · obtain ⟨a, b, c, e⟩ := g2.2
          exact ⟨a, b, c, by rw [upd_ne npl.symm]; exact e⟩
    · rintro σ H2 ⟨v3, v4, rs, rfl, h2, hlen, hr, go⟩
      exact ⟨_, rfl, l, _, rfl, .inl ⟨SqL.of h2, fun t ht => q t rs _ (go.new ht) upd_same hlen hr⟩⟩
theorem sc__law_step : FnScope ["_law_purse_here", "_law_way"] ["_law_purse_here"] (defScope s__law_step) := ⟨rfl, rfl, rfl, by decide +kernel, rfl, by decide +kernel, by decide +kernel⟩
theorem ok__law_step (T : Tx K mg a t_LAST_TIME t_MOST_WALKERS t_MOST_ROOM t_MOST_MEETINGS t_MOST_MANY) (B : BmAt mg base) : FnOk P w K mg base CX0 2 a.a__law_step a.d__law_step ["_law_purse_here"] (spStep) := by
  have G__law_take := @ok__law_take P w _ _ base _ _ _ _ _ _ T B
  refine T.F__law_step.ok sc__law_step (fun vs H Q E h => ?_) (fun cdv A outer s H vs Q E hr h => ?_)
  · obtain ⟨p, rfl, _⟩ := h; rfl
  · have nd := sc__law_step.nd
    have hu := hr.units
    obtain ⟨p, rfl, hp, q⟩ := h
    refine ⟨_, (@bl_out _ _ _ (@bl_c _ _ _ _ _ _ (ps_set (i := 1) nd rfl (by first | exact Or.inl rfl | exact Or.inr rfl) (pe_call G__law_take (hr.mono (by decide)) rfl T.m__law_take T.k__law_take T.i__law_take .nil pass0 (@pa_out _ _ _ (@pa_c _ _ _ _ _ (pv 0) (@pa_c _ _ _ _ _ pe_int pa_n rfl) rfl)))) (@bl_c _ _ _ _ _ _ (@ps_if _ _ _ _ _ _ _ _ (@pt_cmpR _ _ _ _ _ _ _ _ op_lt (pv 1) pe_int (nomark _)) (@bl_out _ _ _ (@bl_1 _ _ _ (@ps_ret _ _ _ _ (@pe_ix _ _ _ _ _ _ _ (ix_list' rfl) (@pe_lst _ _ _ _ (@pa_out _ _ _ (@pa_c _ _ _ _ _ pe_int (@pa_c _ _ _ _ _ pe_int (@pa_c _ _ _ _ _ pe_int pa_n rfl) rfl) rfl))) (pv 1) (fun _ _ => rfl))))) pss_nil) (@bl_c _ _ _ _ _ _ (@ps_if _ _ _ _ _ _ _ _ (@pt_cmpR _ _ _ _ _ _ _ _ op_eq (pv 1) pe_int (nomark _)) (@bl_out _ _ _ (@bl_1 _ _ _ (@ps_ret _ _ _ _ (@pe_op _ _ _ _ _ _ _ _ op_add pe_int (pe_call G__law_take (hr.mono (by decide)) rfl T.m__law_take T.k__law_take T.i__law_take .nil pass0 (@pa_out _ _ _ (@pa_c _ _ _ _ _ (pv 0) (@pa_c _ _ _ _ _ pe_int pa_n rfl) rfl))))))) pss_nil) (@bl_1 _ _ _ (@ps_ret _ _ _ _ (@pe_op _ _ _ _ _ _ _ _ op_add pe_int (pe_call G__law_take (hr.mono (by decide)) rfl T.m__law_take T.k__law_take T.i__law_take .nil pass0 (@pa_out _ _ _ (@pa_c _ _ _ _ _ (pv 0) (@pa_c _ _ _ _ _ (@pe_op _ _ _ _ _ _ _ _ op_mul pe_int (@pe_op _ _ _ _ _ _ _ _ op_pow pe_int pe_int)) pa_n rfl) rfl)))))))))), ?_⟩
    have s3 : 3 ≤ sizeLine := by rw [sizeLine_eq]; decide
    refine ⟨_, rfl, p, _, rfl, by decide, by decide, hp, fun d H1 d0 d1 g1 => ⟨_, rfl, _, _, rfl, rfl, _, rfl, iteD (fun h1 => ?_) fun h1 => ?_⟩⟩
    · obtain ⟨v, hv, v0, v1⟩ : ∃ v : Int, atI [V.int 0, V.int 1, V.int 1] d = some (V.int v) ∧ 0 ≤ v ∧ v ≤ 1 := by
        obtain rfl | rfl | rfl : d = 0 ∨ d = 1 ∨ d = 2 := by omega
        · exact ⟨0, rfl, by decide, by decide⟩
        · exact ⟨1, rfl, by decide, by decide⟩
        · exact ⟨1, rfl, by decide, by decide⟩
      exact ⟨s3, fun l hl => ⟨_, rfl, l, _, _, _, rfl, rfl, SqL.of upd_same, hv, q _ _ v0 (by omega) (g1.new hl)⟩⟩
    · refine ⟨_, rfl, rfl, _, rfl, iteD (fun h2 => ?_) fun h2 => ?_⟩
      · exact ⟨_, rfl, p, _, rfl, by decide, by decide, g1.2, fun e H2 e0 e1 g2 => ⟨_, _, rfl, rfl, q _ _ (by omega) (by omega) (g1.trans g2)⟩⟩
      · have e16 : (16 : Int) * 10 ^ Int.toNat 6 = 16000000 := by decide
        refine ⟨_, rfl, _, _, rfl, rfl, ⟨by decide, by decide, by decide⟩, _, _, rfl, rfl, .inl ⟨by decide, by decide⟩, p, _, rfl, by decide, by decide, g1.2, fun e H2 e0 e1 g2 => ⟨_, _, rfl, rfl, q _ _ (by omega) (by rw [e16] at e1; omega) (g1.trans g2)⟩⟩
theorem sc__law_meetings : FnScope ["_law_purse_here", "_law_walkers", "_law_most", "_law_found", "_law_when", "_law_busy", "_law_k", "_law_one", "_law_other", "_law_gap", "_law_passed", "_law_late"] ["_law_purse_here", "_law_walkers", "_law_most"] (defScope s__law_meetings) := ⟨rfl, rfl, rfl, by decide +kernel, rfl, by decide +kernel, by decide +kernel⟩
theorem ok__law_meetings (T : Tx K mg a t_LAST_TIME t_MOST_WALKERS t_MOST_ROOM t_MOST_MEETINGS t_MOST_MANY) (B : BmAt mg base) : FnOk P w K mg base CX0 3 a.a__law_meetings a.d__law_meetings ["_law_purse_here", "_law_walkers", "_law_most"] (spMeetings) := by
  have G__law_take := @ok__law_take P w _ _ base _ _ _ _ _ _ T B
  have G__law_step := @ok__law_step P w _ _ base _ _ _ _ _ _ T B
  refine T.F__law_meetings.ok sc__law_meetings (fun vs H Q E h => ?_) (fun cdv A outer s H vs Q E hr h => ?_)
  · obtain ⟨p, w, n, rfl, _⟩ := h; rfl
  · have nd := sc__law_meetings.nd
    have hu := hr.units
    obtain ⟨p, w, n, rfl, hn, w9, hw, hp, q⟩ := h
    refine ⟨_, (@bl_out _ _ _ (@bl_c _ _ _ _ _ _ (ps_set (i := 3) nd rfl (by first | exact Or.inl rfl | exact Or.inr rfl) (@pe_lst _ _ _ _ pa_nil)) (@bl_c _ _ _ _ _ _ (ps_set (i := 4) nd rfl (by first | exact Or.inl rfl | exact Or.inr rfl) (@pe_op _ _ _ _ _ _ _ _ op_add pe_int (@pe_op _ _ _ _ _ _ _ _ op_mul (@pe_op _ _ _ _ _ _ _ _ op_fdivB (pe_call G__law_take (hr.mono (by decide)) rfl T.m__law_take T.k__law_take T.i__law_take .nil pass0 (@pa_out _ _ _ (@pa_c _ _ _ _ _ (pv 0) (@pa_c _ _ _ _ _ pe_int pa_n rfl) rfl))) pe_int) (pe_call G__law_take (hr.mono (by decide)) rfl T.m__law_take T.k__law_take T.i__law_take .nil pass0 (@pa_out _ _ _ (@pa_c _ _ _ _ _ (pv 0) (@pa_c _ _ _ _ _ (@pe_op _ _ _ _ _ _ _ _ op_pow pe_int pe_int) pa_n rfl) rfl)))))) (@bl_c _ _ _ _ _ _ (ps_set (i := 5) nd rfl (by first | exact Or.inl rfl | exact Or.inr rfl) (@pe_lst _ _ _ _ pa_nil)) (@bl_c _ _ _ _ _ _ (ps_for PassesOwn.never rfl (pi_range1 rfl T.b_range (@pa_out _ _ _ (@pa_c _ _ _ _ _ (pv 2) pa_n rfl))) (pg_name (i := 6) nd rfl (by first | exact Or.inl rfl | exact Or.inr rfl)) (@bl_out _ _ _ (@bl_c _ _ _ _ _ _ (ps_set (i := 7) nd rfl (by first | exact Or.inl rfl | exact Or.inr rfl) (pe_call G__law_take (hr.mono (by decide)) rfl T.m__law_take T.k__law_take T.i__law_take .nil pass0 (@pa_out _ _ _ (@pa_c _ _ _ _ _ (pv 0) (@pa_c _ _ _ _ _ (pv 1) pa_n rfl) rfl)))) (@bl_c _ _ _ _ _ _ (ps_set (i := 8) nd rfl (by first | exact Or.inl rfl | exact Or.inr rfl) (@pe_op _ _ _ _ _ _ _ _ op_mod (@pe_op _ _ _ _ _ _ _ _ op_add (@pe_op _ _ _ _ _ _ _ _ op_add (pv 7) pe_int) (pe_call G__law_take (hr.mono (by decide)) rfl T.m__law_take T.k__law_take T.i__law_take .nil pass0 (@pa_out _ _ _ (@pa_c _ _ _ _ _ (pv 0) (@pa_c _ _ _ _ _ (@pe_op _ _ _ _ _ _ _ _ op_sub (pv 1) pe_int) pa_n rfl) rfl)))) (pv 1))) (@bl_c _ _ _ _ _ _ (ps_set (i := 9) nd rfl (by first | exact Or.inl rfl | exact Or.inr rfl) (pe_call G__law_step (hr.mono (by decide)) rfl T.m__law_step T.k__law_step T.i__law_step .nil pass0 (@pa_out _ _ _ (@pa_c _ _ _ _ _ (pv 0) pa_n rfl)))) (@bl_c _ _ _ _ _ _ (@ps_if _ _ _ _ _ _ _ _ (@PW.pt _ _ _ (@pw_or _ _ _ _ _ _ _ (@pt_cmpR _ _ _ _ _ _ _ _ (op_in_seq' rfl) (pv 7) (pv 5) rfl) (@pw_or1 _ _ _ _ (@pt_cmpR _ _ _ _ _ _ _ _ (op_in_seq' rfl) (pv 8) (pv 5) rfl)))) (@bl_out _ _ _ (@bl_1 _ _ _ (ps_set (i := 9) nd rfl (by first | exact Or.inl rfl | exact Or.inr rfl) (pe_callB (call_max2 rfl) (by rfl) T.b_max PyProof.Rows.boot_max (@pa_out _ _ _ (@pa_c _ _ _ _ _ pe_int (@pa_c _ _ _ _ _ (pv 9) pa_n rfl) rfl)))))) pss_nil) (@bl_c _ _ _ _ _ _ (@ps_if _ _ _ _ _ _ _ _ (@pt_cmpR _ _ _ _ _ _ _ _ op_gt (pv 9) pe_int (nomark _)) (@bl_out _ _ _ (@bl_1 _ _ _ (ps_set (i := 5) nd rfl (by first | exact Or.inl rfl | exact Or.inr rfl) (@pe_lst _ _ _ _ pa_nil)))) pss_nil) (@bl_c _ _ _ _ _ _ (ps_set (i := 4) nd rfl (by first | exact Or.inl rfl | exact Or.inr rfl) (@pe_op _ _ _ _ _ _ _ _ op_add (pv 4) (pv 9))) (@bl_c _ _ _ _ _ _ (ps_set (i := 5) nd rfl (by first | exact Or.inl rfl | exact Or.inr rfl) (@pe_op _ _ _ _ _ _ _ _ op_cat (pv 5) (@pe_lst _ _ _ _ (@pa_out _ _ _ (@pa_c _ _ _ _ _ (pv 7) (@pa_c _ _ _ _ _ (pv 8) pa_n rfl) rfl))))) (@bl_c _ _ _ _ _ _ (ps_set (i := 10) nd rfl (by first | exact Or.inl rfl | exact Or.inr rfl) (@pe_op _ _ _ _ _ _ _ _ op_add pe_int (@pe_op _ _ _ _ _ _ _ _ op_fdivB (pe_call G__law_take (hr.mono (by decide)) rfl T.m__law_take T.k__law_take T.i__law_take .nil pass0 (@pa_out _ _ _ (@pa_c _ _ _ _ _ (pv 0) (@pa_c _ _ _ _ _ pe_int pa_n rfl) rfl))) pe_int))) (@bl_c _ _ _ _ _ _ (@ps_if _ _ _ _ _ _ _ _ (@pt_cmpR _ _ _ _ _ _ _ _ op_eq (pe_call G__law_take (hr.mono (by decide)) rfl T.m__law_take T.k__law_take T.i__law_take .nil pass0 (@pa_out _ _ _ (@pa_c _ _ _ _ _ (pv 0) (@pa_c _ _ _ _ _ pe_int pa_n rfl) rfl))) pe_int (nomark _)) (@bl_out _ _ _ (@bl_1 _ _ _ (ps_set (i := 10) nd rfl (by first | exact Or.inl rfl | exact Or.inr rfl) (@pe_op _ _ _ _ _ _ _ _ op_add pe_int (pe_call G__law_take (hr.mono (by decide)) rfl T.m__law_take T.k__law_take T.i__law_take .nil pass0 (@pa_out _ _ _ (@pa_c _ _ _ _ _ (pv 0) (@pa_c _ _ _ _ _ pe_int pa_n rfl) rfl))))))) pss_nil) (@bl_1 _ _ _ (ps_expr (pe_bm PySem.F.plainAttrs_list PySem.F.slot_list_append PySem.F.type_list_append mt_append (pv 3) (@pa_out _ _ _ (@pa_c _ _ _ _ _ (@pe_tup _ _ _ _ _ (@pa_out _ _ _ (@pa_c _ _ _ _ _ (pv 4) (@pa_c _ _ _ _ _ (pe_callB (call_min2 rfl) (by rfl) T.b_min PyProof.Rows.boot_min (@pa_out _ _ _ (@pa_c _ _ _ _ _ (pv 7) (@pa_c _ _ _ _ _ (pv 8) pa_n rfl) rfl))) (@pa_c _ _ _ _ _ (pe_callB (call_max2 rfl) (by rfl) T.b_max PyProof.Rows.boot_max (@pa_out _ _ _ (@pa_c _ _ _ _ _ (pv 7) (@pa_c _ _ _ _ _ (pv 8) pa_n rfl) rfl))) (@pa_c _ _ _ _ _ (pv 10) pa_n rfl) rfl) rfl) rfl))) pa_n rfl)))))))))))))))) (@bl_c _ _ _ _ _ _ (ps_set (i := 11) nd rfl (by first | exact Or.inl rfl | exact Or.inr rfl) pe_int) (@bl_c _ _ _ _ _ _ (@ps_if _ _ _ _ _ _ _ _ (@PW.pt _ _ _ (@pw_and _ _ _ _ _ _ _ (@pt_cmpR _ _ _ _ _ _ _ _ op_eq (pe_call G__law_take (hr.mono (by decide)) rfl T.m__law_take T.k__law_take T.i__law_take .nil pass0 (@pa_out _ _ _ (@pa_c _ _ _ _ _ (pv 0) (@pa_c _ _ _ _ _ pe_int pa_n rfl) rfl))) pe_int (nomark _)) (@pw_and1 _ _ _ _ (@pt_cmpR _ _ _ _ _ _ _ _ (op_neNil hu) (pv 3) (@pe_lst _ _ _ _ pa_nil) (nomark _))))) (@bl_out _ _ _ (@bl_1 _ _ _ (ps_set (i := 11) nd rfl (by first | exact Or.inl rfl | exact Or.inr rfl) (@pe_op _ _ _ _ _ _ _ _ op_sub (@pe_op _ _ _ _ _ _ _ _ op_pow pe_int pe_int) (pv 4))))) pss_nil) (@bl_1 _ _ _ (@ps_ret _ _ _ _ (pe_callTy (call_tuple_of) (by rfl) T.b_tuple PyProof.Rows.boot_tuple (@pa_out _ _ _ (@pa_c _ _ _ _ _ (pe_comp (own := ["_law_then", "_law_low", "_law_high", "_law_room"]) (caps := [11]) rfl (show CompScope ["_law_then", "_law_low", "_law_high", "_law_room"] [11] ["_law_purse_here", "_law_walkers", "_law_most", "_law_found", "_law_when", "_law_busy", "_law_k", "_law_one", "_law_other", "_law_gap", "_law_passed", "_law_late"] (defScope s__law_meetings) _ from ⟨rfl, by decide +kernel, by decide +kernel, by decide +kernel, by decide +kernel⟩) (@pi_list' _ _ _ _ _ rfl (pe_callB (call_sortT) (by rfl) T.b_sorted PyProof.Rows.boot_sorted (@pa_out _ _ _ (@pa_c _ _ _ _ _ (pv 3) pa_n rfl)))) (fun _ _ _ _ => (pg_tup' (n := 4) rfl rfl (pgs_cons (pg_name (i := 0) (show List.Nodup (["_law_then", "_law_low", "_law_high", "_law_room", "_law_late"] : List Str) from by decide +kernel) rfl (by first | exact Or.inl rfl | exact Or.inr rfl)) (pgs_cons (pg_name (i := 1) (show List.Nodup (["_law_then", "_law_low", "_law_high", "_law_room", "_law_late"] : List Str) from by decide +kernel) rfl (by first | exact Or.inl rfl | exact Or.inr rfl)) (pgs_cons (pg_name (i := 2) (show List.Nodup (["_law_then", "_law_low", "_law_high", "_law_room", "_law_late"] : List Str) from by decide +kernel) rfl (by first | exact Or.inl rfl | exact Or.inr rfl)) (pgs_cons (pg_name (i := 3) (show List.Nodup (["_law_then", "_law_low", "_law_high", "_law_room", "_law_late"] : List Str) from by decide +kernel) rfl (by first | exact Or.inl rfl | exact Or.inr rfl)) pgs_nil)))))) (fun _ _ _ _ => pts_nil) (fun _ _ _ _ => (@pe_tup _ _ _ _ _ (@pa_out _ _ _ (@pa_c _ _ _ _ _ (pv 1) (@pa_c _ _ _ _ _ (pv 2) (@pa_c _ _ _ _ _ (@pe_op _ _ _ _ _ _ _ _ op_add (pv 0) (pv 4)) (@pa_c _ _ _ _ _ (pv 3) pa_n rfl) rfl) rfl) rfl))))) pa_n rfl)))))))))))), ?_⟩
    have line : 1001 ≤ sizeLine := by rw [sizeLine_eq]; decide
    have c7 : CPow 10 7 := ⟨by decide, by decide, by decide⟩
    have e7 : (10 : Int) ^ Int.toNat 7 = 10000000 := by decide
    have e64 : (2 : Int) ^ 64 > 1000 := by decide
    have e200 : (2 : Int) ^ 200 > 1000 := by decide
    refine ⟨Nat.zero_le _, fun lf hlf => ?_⟩
    have npf := hp.ne hlf
    have hp1 : Purse (upd H lf (.lst [])) p := hp.new hlf
    refine ⟨_, rfl, p, _, rfl, by decide, by decide, hp1, fun d H1 d0 d1 g1 => ⟨_, _, rfl, rfl, ⟨by decide, by decide⟩, _, rfl, _, _, rfl, rfl, c7, ?_⟩⟩
    refine ⟨p, _, rfl, by decide, by decide, g1.2, fun d2 H2 d20 d21 g2 => ⟨_, _, rfl, rfl, .inl ⟨by omega, by omega⟩, _, _, rfl, rfl, ?_⟩⟩
    rw [e7] at d21
    refine ⟨Nat.zero_le _, fun lb hlb => ?_⟩
    have fr2 := g1.trans g2
    have hlf2 : H2 lf = some (.lst []) := fr2.1 lf _ npf upd_same
    have go0 : Go p H H2 := ((Go.refl hp).new hlf).trans fr2
    refine ⟨_, rfl, _, rfl, by omega, by omega, ?_⟩
    have wh0 : 1 ≤ 1 + d / 2 * d2 ∧ 1 + d / 2 * d2 ≤ 10000000 := by
      obtain h | h : d / 2 = 0 ∨ d / 2 = 1 := by omega
      · rw [h]; omega
      · rw [h]; omega
    refine for_range (lo := 0) (n := n) (PvM p lf w n H)
      ⟨_, _, _, _, _, _, lb, [], [], rfl, by rw [upd_ne (ne_of_none hlf2 hlb)]; exact hlf2, upd_same, (ne_of_none hlf2 hlb).symm, go0.2.ne hlb, (fun _ z => nomatch z), ⟨(fun _ z => nomatch z), .nil, (fun _ z => nomatch z)⟩, rfl, by simp, wh0.1, (by have := wh0.2; simpa using this), go0.new hlb⟩ ?_ ?_
    · rintro i σ H3 hi ⟨v6, v7, v8, v9, v10, wh, lb, bs, fs, rfl, h3f, h3b, nbf, nbp, h3r, F, lenf, lenb, wh1, wh2, go⟩
      have w2 : 2 ≤ w := by omega
      refine ⟨_, rfl, _, rfl, p, w, rfl, by omega, by omega, go.2, fun one H4 o0 o1 g4 => ?_⟩
      refine ⟨_, rfl, _, _, rfl, rfl, _, rfl, _, rfl, _, _, rfl, rfl, p, _, rfl, by omega, by omega, g4.2, fun x H5 x0 x1 g5 => ⟨_, _, rfl, rfl, _, rfl, _, _, rfl, rfl, by omega, ?_⟩⟩
      have ot := oth_ok o0 o1 x0 x1
      refine ⟨_, rfl, p, rfl, g5.2, fun gap H6 gap0 gap1 g6 => ?_⟩
      have g46 := g4.trans (g5.trans g6)
      have hb6 := g46.1 lb _ nbp h3b
      have hf6 := g46.1 lf _ npf h3f
      refine ⟨_, rfl, _, rfl, lb, _, rfl, .inl (SqL.of hb6), rfl, flat_ints bs, _, rfl, iteO (fun σ H7 => ∃ gp : Int, σ = [some (.ref p), some (.int w), some (.int n), some (.ref lf), some (.int wh), some (.ref lb), some (.int (0 + (i : Int))), some (.int one), some (.int ((one + 1 + x) % w)), some (.int gp), v10, none] ∧ H6 = H7 ∧ 0 ≤ gp ∧ gp ≤ 16000000 ∧ (gp = 0 → one ∉ bs ∧ (one + 1 + x) % w ∉ bs)) ?_ (fun c1 k0 => ?_) (fun c1 k0 => ⟨_, rfl, _, rfl, lb, _, rfl, .inl (SqL.of hb6), rfl, flat_ints bs, _, rfl, iteB (fun c2 => ?_) (fun c2 => ?_)⟩)⟩
      rotate_left
      · exact ⟨_, rfl, _, _, rfl, k0 _ _ ⟨_, rfl, rfl, by split <;> omega, by split <;> omega, fun z => by split at z <;> omega⟩⟩
      · exact ⟨_, rfl, _, _, rfl, k0 _ _ ⟨_, rfl, rfl, by split <;> omega, by split <;> omega, fun z => by split at z <;> omega⟩⟩
      · have c1' : one ∉ bs := of_decide_eq_false (inV_ints.symm.trans c1)
        have c2' : (one + 1 + x) % w ∉ bs := of_decide_eq_false (inV_ints.symm.trans c2)
        exact k0 _ _ ⟨gap, rfl, rfl, by omega, by omega, fun _ => ⟨c1', c2'⟩⟩
      rintro σ H7 ⟨gp, rfl, rfl, gp0, gp1, hg⟩
      refine ⟨_, rfl, _, _, rfl, rfl, _, rfl, iteN (fun σ H7 => ∃ ly bz, σ = [some (.ref p), some (.int w), some (.int n), some (.ref lf), some (.int wh), some (.ref ly), some (.int (0 + (i : Int))), some (.int one), some (.int ((one + 1 + x) % w)), some (.int gp), v10, none] ∧ Go p H3 H7 ∧ H7 ly = some (.lst (List.map V.int bz)) ∧ ly ≠ p ∧ bz.length ≤ 2 * i ∧ ∀ z ∈ bs, gp = 0 → z ∈ bz) ?_ (fun c3 k0 => ⟨Nat.zero_le _, fun ln hln => k0 _ _ ⟨ln, [], rfl, g46.new hln, upd_same, g46.2.ne hln, Nat.zero_le _, fun _ _ z => by have := of_decide_eq_true c3; omega⟩⟩) (fun c3 => ⟨lb, bs, rfl, g46, hb6, nbp, lenb, fun _ z _ => z⟩)⟩
      rintro σ H7 ⟨ly, bz, rfl, gy, hyb, nyp, leny, hb0⟩
      have h3f' := gy.1 lf _ npf h3f
      refine ⟨_, rfl, _, rfl, _, _, rfl, rfl, ?_⟩
      refine ⟨_, rfl, _, rfl, _, rfl, by show 2 ≤ sizeLine; omega, fun l2 hl2 => ?_⟩
      have g2' := gy.new (o := HO.lst [V.int one, V.int ((one + 1 + x) % w)]) hl2
      have hyb2 := same_new (o := HO.lst [V.int one, V.int ((one + 1 + x) % w)]) hl2 _ _ hyb
      have h22 : (upd H7 l2 (HO.lst [V.int one, V.int ((one + 1 + x) % w)])) l2 = some (.lst [V.int one, V.int ((one + 1 + x) % w)]) := upd_same
      generalize upd H7 l2 (HO.lst [V.int one, V.int ((one + 1 + x) % w)]) = H8 at g2' hyb2 h22 ⊢
      refine ⟨ly, l2, _, _, rfl, rfl, hyb2, h22, (by simp only [List.length_map, List.length_cons, List.length_nil]; omega), fun l3 hl3 => ?_⟩
      have n3p : l3 ≠ p := g2'.2.ne hl3
      have n3f : l3 ≠ lf := (ne_of_none (g2'.1 lf _ npf h3f) hl3).symm
      have g3' := g2'.new (o := HO.lst (List.map V.int bz ++ [V.int one, V.int ((one + 1 + x) % w)])) hl3
      have h3b' : (upd H8 l3 (HO.lst (List.map V.int bz ++ [V.int one, V.int ((one + 1 + x) % w)]))) l3 = some (.lst (List.map V.int (bz ++ [one, (one + 1 + x) % w]))) := by rw [upd_same, List.map_append]; rfl
      generalize upd H8 l3 (HO.lst (List.map V.int bz ++ [V.int one, V.int ((one + 1 + x) % w)])) = H9 at g3' h3b' ⊢
      refine ⟨_, rfl, p, _, rfl, by decide, by decide, g3'.2, fun d4 H10 d40 d41 g10 => ⟨_, _, rfl, rfl, ⟨by decide, by decide⟩, _, _, rfl, rfl, ?_⟩⟩
      refine ⟨_, rfl, p, _, rfl, by decide, by decide, g10.2, fun d5 H11 d50 d51 g11 => ⟨rfl, _, rfl, iteN (fun σ H12 => ∃ mm : Int, σ = [some (.ref p), some (.int w), some (.int n), some (.ref lf), some (.int (wh + gp)), some (.ref l3), some (.int (0 + (i : Int))), some (.int one), some (.int ((one + 1 + x) % w)), some (.int gp), some (.int mm), none] ∧ 1 ≤ mm ∧ mm ≤ 99 ∧ Go p H9 H12) ?_ (fun c5 k0 => ⟨_, rfl, p, _, rfl, by decide, by decide, g11.2, fun d6 H12 d60 d61 g12 => ⟨_, _, rfl, rfl, k0 _ _ ⟨_, rfl, by omega, by omega, (g10.trans g11).trans g12⟩⟩⟩) (fun c5 => ⟨_, rfl, by omega, by omega, g10.trans g11⟩)⟩⟩
      rintro σ H12 ⟨mm, rfl, mm0, mm1, g12⟩
      have gall := g3'.trans g12
      have hz := gall.1 lf _ npf h3f
      refine ⟨_, rfl, .inl ⟨rfl, _, SqL.of hz⟩, _, rfl, _, rfl, _, rfl, _, _, rfl, _, rfl, _, rfl, _, _, rfl, _, rfl, by show 4 ≤ sizeLine; omega, fun t ht => ⟨lf, _, _, rfl, rfl, (by rw [upd_ne (ne_of_none hz ht)]; exact hz), (by rw [List.length_map]; omega), ?_⟩⟩
      exact PvM.step npf hlf F lenf (bs' := bz ++ [one, (one + 1 + x) % w]) (by simp only [List.length_append, List.length_cons, List.length_nil]; omega) wh1 wh2 hz (g12.1 l3 _ n3p h3b') n3f n3p (fun a ha => gall.tups go.2 _ _ (h3r a ha)) (go.trans gall) ht gp0 gp1 o0 o1 ot.1 ot.2.1 ot.2.2 mm0 mm1 hg (fun z hz1 hz2 => List.mem_append_left _ (hb0 z hz1 hz2)) (by simp) (by simp)
    · rintro σ H3 ⟨v6, v7, v8, v9, v10, wh, lb, bs, fs, rfl, h3f, h3b, nbf, nbp, h3r, F, lenf, lenb, wh1, wh2, go⟩
      have c9 : CPow 10 9 := ⟨by decide, by decide, by decide⟩
      have e9 : (10 : Int) ^ Int.toNat 9 = 1000000000 := by decide
      refine ⟨_, rfl, p, _, rfl, by decide, by decide, go.2, fun d8 H4 _ _ g4 => ⟨rfl, _, rfl, iteA (fun σ H5 => ∃ late : Int, (∃ v6 v7 v8 v9 v10, σ = [some (.ref p), some (.int w), some (.int n), some (.ref lf), some (.int wh), some (.ref lb), v6, v7, v8, v9, v10, some (.int late)]) ∧ Go p H3 H5 ∧ 0 ≤ late ∧ (fs ≠ [] → wh + late ≤ 1000000000)) ?_ (fun c k0 => ?_) (fun c => ⟨0, ⟨_, _, _, _, _, rfl⟩, g4, Int.le_refl _, fun _ => by omega⟩)⟩⟩
      rotate_left
      · have h4f := g4.1 lf _ npf h3f
        refine ⟨_, rfl, Nat.zero_le _, fun l4 hl4 => ⟨lf, l4, _, rfl, rfl, SqL.of (by rw [upd_ne (ne_of_none h4f hl4)]; exact h4f), SqL.of upd_same, _, rfl, iteB (fun c2 => ?_) (fun c2 => ?_)⟩⟩
        · exact ⟨_, _, rfl, rfl, c9, _, rfl, _, _, rfl, rfl, k0 _ _ ⟨_, ⟨_, _, _, _, _, rfl⟩, g4.new hl4, by rw [e9]; omega, fun _ => by rw [e9]; omega⟩⟩
        · exact k0 _ _ ⟨0, ⟨_, _, _, _, _, rfl⟩, g4.new hl4, Int.le_refl _, fun _ => by omega⟩
      rintro σ Hz ⟨late, ⟨v6', v7', v8', v9', v10', rfl⟩, gz, L0, L1⟩
      have hz := gz.1 lf _ npf h3f
      refine ⟨_, rfl, lf, fs.map (fun a => (a.1, a.2.row)), rfl, ?_, (by rw [List.length_map]; omega), (fun a ha => ?_), fun D qs hD pq sq => ?_⟩
      · rw [List.map_map]; exact SqL.of hz
      · obtain ⟨b, hb, rfl⟩ := List.mem_map.mp ha
        exact ⟨gz.tups go.2 _ _ (h3r b hb), by intro z; cases z⟩
      obtain ⟨rs, prs, srs, rfl⟩ := rows_back pq sq
      refine ⟨D, rfl, ⟨_, SqL.of upd_same⟩, ?_⟩
      have lrs : rs.length = n := by rw [prs.length_eq, lenf]
      have hDl : (upd Hz D (HO.lst (List.map (fun a => V.ref a.1) (List.map (fun a : Addr × M4 => (a.1, a.2.row)) rs)))) D = some (.lst (rs.map fun a => V.ref a.1)) := by rw [upd_same, List.map_map]; rfl
      have rD := fun a (ha : a ∈ rs) => (Tups.new (o := HO.lst (List.map (fun a => V.ref a.1) (List.map (fun a : Addr × M4 => (a.1, a.2.row)) rs))) hD) _ _ (gz.tups go.2 _ _ (h3r a (prs.mem_iff.mp ha)))
      have gD := (go.trans gz).new (o := HO.lst (List.map (fun a => V.ref a.1) (List.map (fun a : Addr × M4 => (a.1, a.2.row)) rs))) hD
      refine comp_list (K := K) (a := D) (xs := rs.map fun a => V.ref a.1) (fun i τ acc H5 => ∃ ps : List (Addr × M4), (∃ t0 t1 t2 t3, τ = [t0, t1, t2, t3, some (.int late)]) ∧ acc = (ps.map fun a => V.ref a.1) ∧ (ps.map (·.2)) = ((rs.take i).map fun a => a.2.late late) ∧ RowsAt H5 ps ∧ Same (upd Hz D (HO.lst (List.map (fun a => V.ref a.1) (List.map (fun a : Addr × M4 => (a.1, a.2.row)) rs)))) H5)
        ?_ (by rw [List.length_map]; omega) ?_ ?_ ?_
      · exact ⟨[], ⟨_, _, _, _, rfl⟩, rfl, rfl, (fun _ z => nomatch z), Same.refl _⟩
      · rintro i τ acc H6 ⟨ps, ⟨t0, t1, t2, t3, rfl⟩, rfl, eps, rws, sm⟩
        have := congrArg List.length eps
        rw [List.length_map, List.length_map, List.length_take] at this
        exact ⟨by rw [List.length_map]; omega, sm.seq (SqL.of hDl)⟩
      · rintro i x τ acc H5 C hx ⟨ps, ⟨t0, t1, t2, t3, rfl⟩, rfl, eps, rws, sm⟩ hC
        obtain ⟨r, hr, rfl⟩ := map_get hx
        have hrow := sm _ _ (rD r (List.mem_of_getElem? hr))
        refine ⟨r.1, _, rfl, SqT.of hrow, rfl, _, _, rfl, _, _, rfl, _, _, rfl, _, _, rfl, rfl, _, rfl, _, rfl, _, rfl, _, rfl, _, _, rfl, rfl, _, rfl, by show 4 ≤ sizeLine; omega, fun t ht => hC _ _ _ ?_⟩
        refine ⟨ps ++ [(t, r.2.late late)], ⟨_, _, _, _, rfl⟩, by rw [List.map_append]; rfl, by rw [List.map_append, take_snoc hr, List.map_append, eps]; rfl, fun a ha => ?_, sm.trans (same_new ht)⟩
        rcases List.mem_append.mp ha with h | h
        · exact same_new ht _ _ (rws a h)
        · cases List.mem_singleton.mp h
          exact upd_same
      · rintro τ acc H6 ⟨ps, ⟨t0, t1, t2, t3, rfl⟩, rfl, eps, rws, sm⟩ lt hlt
        refine ⟨lt, _, rfl, .inl ⟨SqL.of upd_same, fun t ht => q t ps _ (((gD.same sm).new hlt).new ht) upd_same ((rws.tups (Tups.new hlt)).tups (Tups.new ht)) ?_ ?_⟩⟩
        · rw [eps, List.length_map, List.take_length]
          exact F.good (by omega) L0 L1 prs srs
        · have := congrArg List.length eps
          rw [List.length_map, List.length_map, List.length_map, List.take_length] at this
          omega
theorem sc__law_book : FnScope ["_law_purse_here", "_law_most_walkers", "_law_most_meetings", "_law_walkers", "_law_most"] ["_law_purse_here", "_law_most_walkers", "_law_most_meetings"] (defScope s__law_book) := ⟨rfl, rfl, rfl, by decide +kernel, rfl, by decide +kernel, by decide +kernel⟩
theorem ok__law_book (T : Tx K mg a t_LAST_TIME t_MOST_WALKERS t_MOST_ROOM t_MOST_MEETINGS t_MOST_MANY) (B : BmAt mg base) : FnOk P w K mg base CX0 4 a.a__law_book a.d__law_book ["_law_purse_here", "_law_most_walkers", "_law_most_meetings"] (spBook) := by
  have G__law_take := @ok__law_take P w _ _ base _ _ _ _ _ _ T B
  have G__law_rooms := @ok__law_rooms P w _ _ base _ _ _ _ _ _ T B
  have G__law_meetings := @ok__law_meetings P w _ _ base _ _ _ _ _ _ T B
  refine T.F__law_book.ok sc__law_book (fun vs H Q E h => ?_) (fun cdv A outer s H vs Q E hr h => ?_)
  · obtain ⟨p, a, n, rfl, _⟩ := h; rfl
  · have nd := sc__law_book.nd
    have hu := hr.units
    obtain ⟨p, aw, n, rfl, a1, a2, hn, hp, q⟩ := h
    refine ⟨_, (@bl_out _ _ _ (@bl_c _ _ _ _ _ _ (ps_set (i := 3) nd rfl (by first | exact Or.inl rfl | exact Or.inr rfl) (@pe_op _ _ _ _ _ _ _ _ op_add pe_int (pe_call G__law_take (hr.mono (by decide)) rfl T.m__law_take T.k__law_take T.i__law_take .nil pass0 (@pa_out _ _ _ (@pa_c _ _ _ _ _ (pv 0) (@pa_c _ _ _ _ _ (pv 1) pa_n rfl) rfl))))) (@bl_c _ _ _ _ _ _ (ps_set (i := 4) nd rfl (by first | exact Or.inl rfl | exact Or.inr rfl) (pe_callB (call_min2 rfl) (by rfl) T.b_min PyProof.Rows.boot_min (@pa_out _ _ _ (@pa_c _ _ _ _ _ (pv 2) (@pa_c _ _ _ _ _ (pe_call G__law_take (hr.mono (by decide)) rfl T.m__law_take T.k__law_take T.i__law_take .nil pass0 (@pa_out _ _ _ (@pa_c _ _ _ _ _ (pv 0) (@pa_c _ _ _ _ _ (@pe_op _ _ _ _ _ _ _ _ op_add (pv 2) pe_int) pa_n rfl) rfl))) pa_n rfl) rfl)))) (@bl_c _ _ _ _ _ _ (@ps_if _ _ _ _ _ _ _ _ (@pt_cmpR _ _ _ _ _ _ _ _ op_eq (pv 3) pe_int (nomark _)) (@bl_out _ _ _ (@bl_1 _ _ _ (ps_set (i := 4) nd rfl (by first | exact Or.inl rfl | exact Or.inr rfl) pe_int))) pss_nil) (@bl_1 _ _ _ (@ps_ret _ _ _ _ (@pe_tup _ _ _ _ _ (@pa_out _ _ _ (@pa_c _ _ _ _ _ (pe_call G__law_rooms (hr.mono (by decide)) rfl T.m__law_rooms T.k__law_rooms T.i__law_rooms .nil pass0 (@pa_out _ _ _ (@pa_c _ _ _ _ _ (pv 0) (@pa_c _ _ _ _ _ (pv 3) pa_n rfl) rfl))) (@pa_c _ _ _ _ _ (pe_call G__law_meetings (hr.mono (by decide)) rfl T.m__law_meetings T.k__law_meetings T.i__law_meetings .nil pass0 (@pa_out _ _ _ (@pa_c _ _ _ _ _ (pv 0) (@pa_c _ _ _ _ _ (pv 3) (@pa_c _ _ _ _ _ (pv 4) pa_n rfl) rfl) rfl))) pa_n rfl) rfl))))))))), ?_⟩
    have line : 1001 ≤ sizeLine := by rw [sizeLine_eq]; decide
    have e200 : (2 : Int) ^ 200 > 1000 := by decide
    refine ⟨_, rfl, _, rfl, p, aw, rfl, by omega, by omega, hp, fun d H1 d0 d1 g1 => ⟨_, _, rfl, rfl, ?_⟩⟩
    obtain ⟨k, rfl⟩ := Int.eq_ofNat_of_zero_le d0
    refine ⟨_, rfl, _, rfl, _, rfl, _, _, rfl, rfl, p, _, rfl, by omega, by omega, g1.2, fun e H2 e0 e1 g2 => ⟨_, _, rfl, ?_⟩⟩
    obtain ⟨m, em, hm⟩ : ∃ m : Nat, (if e < (n : Int) then e else (n : Int)) = m ∧ m ≤ n := by
      refine ⟨(if e < (n : Int) then e else (n : Int)).toNat, ?_, ?_⟩ <;> split <;> omega
    refine ⟨_, rfl, rfl, _, rfl, iteN (fun σ H3 => ∃ m : Nat, σ = [some (.ref p), some (.int aw), some (.int n), some (.int (1 + (k : Int))), some (.int m)] ∧ m ≤ n ∧ (m = 0 ∨ 1 ≤ k) ∧ Go p H H3) ?_ (fun c k0 => k0 _ _ ⟨0, rfl, Nat.zero_le _, .inl rfl, g1.trans g2⟩) (fun c => ⟨m, by rw [← em]; rfl, hm, .inr (by
        by_cases hk : k = 0
        · subst hk; exact absurd c (by simp)
        · omega), g1.trans g2⟩)⟩
    rintro σ H2 ⟨m, rfl, hm, hk, g2⟩
    refine ⟨_, rfl, _, rfl, p, 1 + k, by simp, by omega, g2.2, fun tr rooms H3 g3 h3 l3 r3 => ⟨_, rfl, _, rfl, _, rfl, p, _, m, rfl, by omega, by omega, by omega, g3.2, fun tm ps H4 g4 h4 r4 gd l4 => ⟨by show 2 ≤ sizeLine; omega, fun b hb => ?_⟩⟩⟩
    have h3' := g4.tups g3.2 _ _ h3
    have tn := Tups.new (o := HO.tup [V.ref tr, V.ref tm]) hb
    refine q b rooms tr tm ps _ ((g2.trans (g3.trans g4)).new hb) ⟨upd_same, tn _ _ h3', tn _ _ h4, r4.tups tn⟩ (by omega) (by omega) r3 ?_ (by omega)
    rw [l3]
    simpa using gd
theorem sc_is_whole : FnScope ["thing"] ["thing"] (defScope s_is_whole) := ⟨rfl, rfl, rfl, by decide +kernel, rfl, by decide +kernel, by decide +kernel⟩
theorem ok_is_whole (T : Tx K mg a t_LAST_TIME t_MOST_WALKERS t_MOST_ROOM t_MOST_MEETINGS t_MOST_MANY) (B : BmAt mg base) : FnOk P w K mg base CX0 1 a.a_is_whole a.d_is_whole ["thing"] (spWhole) := by
  refine T.F_is_whole.ok sc_is_whole (fun vs H Q E h => ?_) (fun cdv A outer s H vs Q E hr h => ?_)
  · obtain ⟨x, t, rfl, _⟩ := h; rfl
  · have nd := sc_is_whole.nd
    have hu := hr.units
    obtain ⟨x, t, rfl, ht, k⟩ := h
    refine ⟨_, (@bl_out _ _ _ (@bl_1 _ _ _ (@ps_ret _ _ _ _ (@pe_and _ _ _ _ _ _ _ (pe_callB (call_isinst) (by rfl) T.b_isinstance PyProof.Rows.boot_isinstance (@pa_out _ _ _ (@pa_c _ _ _ _ _ (pv 0) (@pa_c _ _ _ _ _ (pe_bltn (v := V.ty "int") rfl T.b_int PyProof.Rows.boot_int rfl) pa_n rfl) rfl))) (@pe_one _ _ _ _ _ (@pe_not _ _ _ _ (pe_callB (call_isinst) (by rfl) T.b_isinstance PyProof.Rows.boot_isinstance (@pa_out _ _ _ (@pa_c _ _ _ _ _ (pv 0) (@pa_c _ _ _ _ _ (pe_bltn (v := V.ty "bool") rfl T.b_bool PyProof.Rows.boot_bool rfl) pa_n rfl) rfl))))))))), ?_⟩
    simp only [gTup, gCons, gNil, tYes, tBM, rAppend, gSub, tAugS, ipI, rU, rIxL, rIxT, rSetL, tSeq, tAsg, tIfS, tRet, tOp, tUn, rI0, rI, tVar, tC, gName, tCall, tCB, tCons, tNil, tAndV, tOrV, tNotV, tNext, tTest, tB, tNot, tAnd, tOr, tDrop, rEq, rNe, scal, tChain, tTup, tLst, tSl, tNoPart, tPart, cxOf, L2.start, List.map_cons, List.map_nil, List.length_cons, List.length_nil, Nat.reduceAdd, Nat.reduceSub, List.replicate, List.cons_append, List.nil_append, List.append_nil, List.getElem?_cons_zero, List.getElem?_cons_succ, Option.some.injEq, exists_eq_left', exists_eq_left, exists_and_left, and_assoc, V.int.injEq, V.ty.injEq, V.str.injEq, V.bl.injEq, V.ref.injEq, List.cons.injEq, and_true, true_and, List.set_cons_zero, List.set_cons_succ]
    simp only [V.ty.injEq, ht, Option.some.injEq, exists_eq_left', exists_and_left, true_or, or_true, true_and]
    rcases tyS_six ht with rfl | rfl | rfl | rfl | rfl | rfl | rfl <;> simpa [isSub] using k
theorem sc_is_within : FnScope ["thing", "least", "most"] ["thing", "least", "most"] (defScope s_is_within) := ⟨rfl, rfl, rfl, by decide +kernel, rfl, by decide +kernel, by decide +kernel⟩
theorem ok_is_within (T : Tx K mg a t_LAST_TIME t_MOST_WALKERS t_MOST_ROOM t_MOST_MEETINGS t_MOST_MANY) (B : BmAt mg base) : FnOk P w K mg base CX0 2 a.a_is_within a.d_is_within ["thing", "least", "most"] (spWithin) := by
  have G_is_whole := @ok_is_whole P w _ _ base _ _ _ _ _ _ T B
  refine T.F_is_within.ok sc_is_within (fun vs H Q E h => ?_) (fun cdv A outer s H vs Q E hr h => ?_)
  · obtain ⟨x, t, lo, hi, rfl, _⟩ := h; rfl
  · have nd := sc_is_within.nd
    have hu := hr.units
    obtain ⟨x, t, lo, hi, rfl, ht, k⟩ := h
    refine ⟨_, (@bl_out _ _ _ (@bl_1 _ _ _ (@ps_ret _ _ _ _ (@pe_and _ _ _ _ _ _ _ (pe_call G_is_whole (hr.mono (by decide)) rfl T.m_is_whole T.k_is_whole T.i_is_whole .nil pass0 (@pa_out _ _ _ (@pa_c _ _ _ _ _ (pv 0) pa_n rfl))) (@pe_one _ _ _ _ _ (pe_chain op_le op_le (pv 1) (pv 0) (pv 2))))))), ?_⟩
    simp only [gTup, gCons, gNil, tYes, tBM, rAppend, gSub, tAugS, ipI, rU, rIxL, rIxT, rSetL, tSeq, tAsg, tIfS, tRet, tOp, tUn, rI0, rI, tVar, tC, gName, tCall, tCB, tCons, tNil, tAndV, tOrV, tNotV, tNext, tTest, tB, tNot, tAnd, tOr, tDrop, rEq, rNe, scal, tChain, tTup, tLst, tSl, tNoPart, tPart, cxOf, L2.start, List.map_cons, List.map_nil, List.length_cons, List.length_nil, Nat.reduceAdd, Nat.reduceSub, List.replicate, List.cons_append, List.nil_append, List.append_nil, List.getElem?_cons_zero, List.getElem?_cons_succ, Option.some.injEq, exists_eq_left', exists_eq_left, exists_and_left, and_assoc, V.int.injEq, V.ty.injEq, V.str.injEq, V.bl.injEq, V.ref.injEq, List.cons.injEq, and_true, true_and, List.set_cons_zero, List.set_cons_succ]
    refine ⟨x, t, rfl, ht, _, rfl, ?_⟩
    by_cases h : t = "int"
    · subst h
      obtain ⟨i, rfl⟩ := tyS_int ht
      simp only [gTup, gCons, gNil, tYes, tBM, rAppend, gSub, tAugS, ipI, rU, rIxL, rIxT, rSetL, tSeq, tAsg, tIfS, tRet, tOp, tUn, rI0, rI, tVar, tC, gName, tCall, tCB, tCons, tNil, tAndV, tOrV, tNotV, tNext, tTest, tB, tNot, tAnd, tOr, tDrop, rEq, rNe, scal, tChain, tTup, tLst, tSl, tNoPart, tPart, cxOf, L2.start, List.map_cons, List.map_nil, List.length_cons, List.length_nil, Nat.reduceAdd, Nat.reduceSub, List.replicate, List.cons_append, List.nil_append, List.append_nil, List.getElem?_cons_zero, List.getElem?_cons_succ, Option.some.injEq, exists_eq_left', exists_eq_left, exists_and_left, and_assoc, V.int.injEq, V.ty.injEq, V.str.injEq, V.bl.injEq, V.ref.injEq, List.cons.injEq, and_true, true_and, List.set_cons_zero, List.set_cons_succ]
      by_cases h1 : lo ≤ i
      · simpa [h1, inB] using k
      · simpa [h1, inB] using k
    · rw [inB_no ht h] at k
      simpa [h] using k
theorem sc_are_rooms : FnScope ["thing"] ["thing"] (defScope s_are_rooms) := ⟨rfl, rfl, rfl, by decide +kernel, rfl, by decide +kernel, by decide +kernel⟩
theorem ok_are_rooms (T : Tx K mg a t_LAST_TIME t_MOST_WALKERS t_MOST_ROOM t_MOST_MEETINGS t_MOST_MANY) (B : BmAt mg base) : FnOk P w K mg base CX0 3 a.a_are_rooms a.d_are_rooms ["thing"] (spAreR3) := by
  have G_is_within := @ok_is_within P w _ _ base _ _ _ _ _ _ T B
  refine T.F_are_rooms.ok sc_are_rooms (fun vs H Q E h => ?_) (fun cdv A outer s H vs Q E hr h => ?_)
  · obtain ⟨_, _, rfl, _⟩ := h; rfl
  · have nd := sc_are_rooms.nd
    have hu := hr.units
    obtain ⟨v, d, rfl, hd, sh, q⟩ := h
    refine ⟨_, (@bl_out _ _ _ (@bl_c _ _ _ _ _ _ (@ps_if _ _ _ _ _ _ _ _ (@PW.pt _ _ _ (@pw_or _ _ _ _ _ _ _ (@pt_not _ _ _ _ (pt_val (pe_callB (call_isinst) (by rfl) T.b_isinstance PyProof.Rows.boot_isinstance (@pa_out _ _ _ (@pa_c _ _ _ _ _ (pv 0) (@pa_c _ _ _ _ _ (pe_bltn (v := V.ty "list") rfl T.b_list PyProof.Rows.boot_list rfl) pa_n rfl) rfl))))) (@pw_or1 _ _ _ _ (@pt_not _ _ _ _ (pt_chain op_le op_le pe_int (pe_callB (call_len_seq' rfl) (by rfl) T.b_len PySem.boot_len (@pa_out _ _ _ (@pa_c _ _ _ _ _ (pv 0) pa_n rfl))) (pe_glob (v := V.int 12) rfl T.c_MOST_WALKERS ⟨_, rfl⟩)))))) (@bl_out _ _ _ (@bl_1 _ _ _ (@ps_ret _ _ _ _ pe_bl))) pss_nil) (@bl_1 _ _ _ (@ps_ret _ _ _ _ (pe_callB (call_all rfl rfl) (by rfl) T.b_all PyProof.Rows.boot_all (@pa_out _ _ _ (@pa_c _ _ _ _ _ (pe_comp (own := ["room"]) (caps := []) rfl (show CompScope ["room"] [] ["thing"] (defScope s_are_rooms) _ from ⟨rfl, by decide +kernel, by decide +kernel, by decide +kernel, by decide +kernel⟩) (@pi_list' _ _ _ _ _ rfl (pv 0)) (fun _ _ _ _ => (pg_name (i := 0) (show List.Nodup (["room"] : List Str) from by decide +kernel) rfl (by first | exact Or.inl rfl | exact Or.inr rfl))) (fun _ _ _ _ => pts_nil) (fun _ _ _ _ => (pe_call G_is_within (hr.mono (by decide)) rfl T.m_is_within T.k_is_within T.i_is_within .nil pass0 (@pa_out _ _ _ (@pa_c _ _ _ _ _ (pv 0) (@pa_c _ _ _ _ _ pe_int (@pa_c _ _ _ _ _ (pe_glob (v := V.int 99) rfl T.c_MOST_ROOM ⟨_, rfl⟩) pa_n rfl) rfl) rfl))))) pa_n rfl))))))), ?_⟩
    have line := line9
    rcases da_list hd with ⟨p, xs, rfl, hp, hx⟩ | ⟨⟨t, ht, hs⟩, no⟩
    · have l1 := sh p xs rfl hp
      rw [roomsV_yes hp] at q
      refine ⟨_, rfl, _, "list", "list", rfl, tyS_lst hp, .inr (.inr (.inl rfl)), _, rfl, iteB0 rfl ?_⟩
      simp only [gTup, gCons, gNil, tYes, tBM, rAppend, gSub, tAugS, ipI, rU, rIxL, rIxT, rSetL, tSeq, tAsg, tIfS, tRet, tOp, tUn, rI0, rI, tVar, tC, gName, tCall, tCB, tCons, tNil, tAndV, tOrV, tNotV, tNext, tTest, tB, tNot, tAnd, tOr, tDrop, rEq, rNe, scal, tChain, tTup, tLst, tSl, tNoPart, tPart, cxOf, L2.start, List.map_cons, List.map_nil, List.length_cons, List.length_nil, Nat.reduceAdd, Nat.reduceSub, List.replicate, List.cons_append, List.nil_append, List.append_nil, List.getElem?_cons_zero, List.getElem?_cons_succ, Option.some.injEq, exists_eq_left', exists_eq_left, exists_and_left, and_assoc, V.int.injEq, V.ty.injEq, V.str.injEq, V.bl.injEq, V.ref.injEq, List.cons.injEq, and_true, true_and, List.set_cons_zero, List.set_cons_succ]
      refine ⟨_, .inl (SqL.of hp), ?_⟩
      by_cases c1 : 1 ≤ xs.length
      · rw [decide_eq_true c1, Bool.true_and] at q
        refine iteB1 (decide_eq_true (by omega)) ?_
        by_cases c2 : xs.length ≤ 12
        · rw [decide_eq_true c2, Bool.true_and] at q
          refine iteB0 (by rw [decide_eq_true (by omega)]; rfl) ?_
          refine ⟨_, rfl, p, rfl, ⟨_, SqL.of hp⟩, ?_⟩
          refine comp_list (K := K) (a := p) (xs := xs) (fun i τ acc H5 => (∃ t0, τ = [t0]) ∧ acc = ((xs.take i).map (inB 0 99)).map V.bl ∧ H5 = H) ⟨⟨_, rfl⟩, rfl, rfl⟩ (by omega) ?_ ?_ ?_
          · rintro i τ acc H5 ⟨⟨t0, rfl⟩, rfl, rfl⟩
            exact ⟨by simp; omega, SqL.of hp⟩
          · rintro i x τ acc H5 C hxi ⟨⟨t0, rfl⟩, rfl, rfl⟩ hC
            obtain ⟨d', k'⟩ := hx x (List.mem_of_getElem? hxi)
            obtain ⟨t, ht⟩ := da_ty k'
            exact ⟨_, rfl, x, t, 0, 99, rfl, ht, hC _ _ _ ⟨⟨_, rfl⟩, by rw [take_snoc hxi, List.map_append, List.map_append]; rfl, rfl⟩⟩
          · rintro τ acc H5 ⟨⟨t0, rfl⟩, rfl, rfl⟩ lc hlc
            refine ⟨lc, rfl, _, SqL.of upd_same, ?_⟩
            have : ((xs.take xs.length).map (inB 0 99)).all id = xs.all (inB 0 99) := by rw [List.take_length, List.all_map]; rfl
            rw [this]
            exact q _ (same_new hlc)
        · rw [decide_eq_false c2] at q
          exact iteB1 (by rw [decide_eq_false (by omega)]; rfl) (q H (Same.refl _))
      · rw [decide_eq_false c1] at q
        exact iteB0 (decide_eq_false (by omega)) (iteB1 rfl (q H (Same.refl _)))
    · rw [roomsV_no no] at q
      exact ⟨_, rfl, _, t, "list", rfl, ht, .inr (.inr (.inl rfl)), _, rfl, iteB1 (by show (!isSub t "list") = true; rw [hs]; rfl) (q H (Same.refl _))⟩
theorem sc_is_meeting : FnScope ["walkers", "thing", "one", "other", "when", "many"] ["walkers", "thing"] (defScope s_is_meeting) := ⟨rfl, rfl, rfl, by decide +kernel, rfl, by decide +kernel, by decide +kernel⟩
theorem ok_is_meeting (T : Tx K mg a t_LAST_TIME t_MOST_WALKERS t_MOST_ROOM t_MOST_MEETINGS t_MOST_MANY) (B : BmAt mg base) : FnOk P w K mg base CX0 3 a.a_is_meeting a.d_is_meeting ["walkers", "thing"] (spMeet3) := by
  have G_is_within := @ok_is_within P w _ _ base _ _ _ _ _ _ T B
  refine T.F_is_meeting.ok sc_is_meeting (fun vs H Q E h => ?_) (fun cdv A outer s H vs Q E hr h => ?_)
  · obtain ⟨_, _, _, rfl, _⟩ := h; rfl
  · have nd := sc_is_meeting.nd
    have hu := hr.units
    obtain ⟨w, v, d, rfl, hd, q⟩ := h
    refine ⟨_, (@bl_out _ _ _ (@bl_c _ _ _ _ _ _ (@ps_if _ _ _ _ _ _ _ _ (@PW.pt _ _ _ (@pw_or _ _ _ _ _ _ _ (@pt_not _ _ _ _ (pt_val (pe_callB (call_isinst) (by rfl) T.b_isinstance PyProof.Rows.boot_isinstance (@pa_out _ _ _ (@pa_c _ _ _ _ _ (pv 1) (@pa_c _ _ _ _ _ (pe_bltn (v := V.ty "tuple") rfl T.b_tuple PyProof.Rows.boot_tuple rfl) pa_n rfl) rfl))))) (@pw_or1 _ _ _ _ (@pt_cmpR _ _ _ _ _ _ _ _ op_ne (pe_callB (call_len_seq' rfl) (by rfl) T.b_len PySem.boot_len (@pa_out _ _ _ (@pa_c _ _ _ _ _ (pv 1) pa_n rfl))) pe_int (nomark _))))) (@bl_out _ _ _ (@bl_1 _ _ _ (@ps_ret _ _ _ _ pe_bl))) pss_nil) (@bl_c _ _ _ _ _ _ (ps_asg (pv 1) (pg_tup' (n := 4) rfl rfl (pgs_cons (pg_name (i := 2) nd rfl (by first | exact Or.inl rfl | exact Or.inr rfl)) (pgs_cons (pg_name (i := 3) nd rfl (by first | exact Or.inl rfl | exact Or.inr rfl)) (pgs_cons (pg_name (i := 4) nd rfl (by first | exact Or.inl rfl | exact Or.inr rfl)) (pgs_cons (pg_name (i := 5) nd rfl (by first | exact Or.inl rfl | exact Or.inr rfl)) pgs_nil)))))) (@bl_c _ _ _ _ _ _ (@ps_if _ _ _ _ _ _ _ _ (@PW.pt _ _ _ (@pw_or _ _ _ _ _ _ _ (@pt_not _ _ _ _ (pt_val (pe_call G_is_within (hr.mono (by decide)) rfl T.m_is_within T.k_is_within T.i_is_within .nil pass0 (@pa_out _ _ _ (@pa_c _ _ _ _ _ (pv 2) (@pa_c _ _ _ _ _ pe_int (@pa_c _ _ _ _ _ (@pe_op _ _ _ _ _ _ _ _ op_sub (pv 0) pe_int) pa_n rfl) rfl) rfl))))) (@pw_or1 _ _ _ _ (@pt_not _ _ _ _ (pt_val (pe_call G_is_within (hr.mono (by decide)) rfl T.m_is_within T.k_is_within T.i_is_within .nil pass0 (@pa_out _ _ _ (@pa_c _ _ _ _ _ (pv 3) (@pa_c _ _ _ _ _ pe_int (@pa_c _ _ _ _ _ (@pe_op _ _ _ _ _ _ _ _ op_sub (pv 0) pe_int) pa_n rfl) rfl) rfl)))))))) (@bl_out _ _ _ (@bl_1 _ _ _ (@ps_ret _ _ _ _ pe_bl))) pss_nil) (@bl_1 _ _ _ (@ps_ret _ _ _ _ (@pe_and _ _ _ _ _ _ _ (@pe_cmpR _ _ _ _ _ _ _ _ op_ne (pv 2) (pv 3) (nomark _)) (@pe_and _ _ _ _ _ _ _ (pe_call G_is_within (hr.mono (by decide)) rfl T.m_is_within T.k_is_within T.i_is_within .nil pass0 (@pa_out _ _ _ (@pa_c _ _ _ _ _ (pv 4) (@pa_c _ _ _ _ _ pe_int (@pa_c _ _ _ _ _ (pe_glob (v := V.int 1000000000) rfl T.c_LAST_TIME ⟨_, rfl⟩) pa_n rfl) rfl) rfl))) (@pe_one _ _ _ _ _ (pe_call G_is_within (hr.mono (by decide)) rfl T.m_is_within T.k_is_within T.i_is_within .nil pass0 (@pa_out _ _ _ (@pa_c _ _ _ _ _ (pv 5) (@pa_c _ _ _ _ _ pe_int (@pa_c _ _ _ _ _ (pe_glob (v := V.int 99) rfl T.c_MOST_MANY ⟨_, rfl⟩) pa_n rfl) rfl) rfl)))))))))))), ?_⟩
    rcases da_tup hd with ⟨t, xs, rfl, ht, hx⟩ | ⟨⟨ty, hty, hs⟩, no⟩
    · refine ⟨_, rfl, _, "tuple", "tuple", rfl, tyS_tup ht, .inr (.inr (.inr rfl)), _, rfl, iteB0 rfl ⟨_, rfl, t, _, rfl, .inr (SqT.of ht), rfl, _, rfl, ?_⟩⟩
      by_cases c : xs.length = 4
      · obtain ⟨x0, x1, x2, x3, rfl⟩ := four3 c
        rw [meetV_yes ht] at q
        refine iteB0 rfl ?_
        obtain ⟨d0, k0⟩ := hx x0 (by simp)
        obtain ⟨d1, k1⟩ := hx x1 (by simp)
        obtain ⟨d2, k2⟩ := hx x2 (by simp)
        obtain ⟨d3, k3⟩ := hx x3 (by simp)
        obtain ⟨t0, y0⟩ := da_ty k0
        obtain ⟨t1, y1⟩ := da_ty k1
        obtain ⟨t2, y2⟩ := da_ty k2
        obtain ⟨t3, y3⟩ := da_ty k3
        refine ⟨_, rfl, t, _, rfl, SqT.of ht, rfl, _, _, rfl, _, _, rfl, _, _, rfl, _, _, rfl, rfl, ?_⟩
        refine ⟨_, rfl, _, rfl, _, _, rfl, rfl, x0, t0, _, _, rfl, y0, _, rfl, ?_⟩
        cases c0 : inB 0 (w - 1) x0 with
        | false => rw [c0] at q; exact iteB1 rfl q
        | true =>
          rw [c0, Bool.true_and] at q
          refine iteB0 rfl ⟨_, rfl, _, rfl, _, _, rfl, rfl, x1, t1, _, _, rfl, y1, _, rfl, ?_⟩
          cases c1 : inB 0 (w - 1) x1 with
          | false => rw [c1] at q; exact iteB1 rfl q
          | true =>
            rw [c1, Bool.true_and] at q
            obtain ⟨i0, rfl⟩ := inB_int c0
            obtain ⟨i1, rfl⟩ := inB_int c1
            refine iteB0 rfl ⟨_, rfl, _, rfl, rfl, _, rfl, ?_⟩
            cases c2 : decide (V.int i0 = V.int i1) with
            | true => rw [c2] at q; exact iteB0 rfl q
            | false =>
              rw [c2, Bool.not_false, Bool.true_and] at q
              refine iteB1 rfl ⟨_, rfl, x2, t2, _, _, rfl, y2, _, rfl, ?_⟩
              cases c3 : inB 1 1000000000 x2 with
              | false => rw [c3] at q; exact iteB0 rfl q
              | true =>
                rw [c3, Bool.true_and] at q
                exact iteB1 rfl ⟨_, rfl, x3, t3, _, _, rfl, y3, q⟩
      · rw [meetV_no (fun p ys e e' => by cases e; rw [ht] at e'; cases e'; exact c)] at q
        exact iteB1 (by show (!decide (V.int (xs.length : Int) = V.int 4)) = true; rw [decide_eq_false fun z => c (by have := V.int.inj z; omega)]; rfl) q
    · rw [meetV_no fun p ys e e' => absurd e' (no p ys e)] at q
      exact ⟨_, rfl, _, ty, "tuple", rfl, hty, .inr (.inr (.inr rfl)), _, rfl, iteB1 (by show (!isSub ty "tuple") = true; rw [hs]; rfl) q⟩
theorem sc_meets_twice_at_once : FnScope ["meetings", "seen", "one", "other", "when", "many"] ["meetings"] (defScope s_meets_twice_at_once) := ⟨rfl, rfl, rfl, by decide +kernel, rfl, by decide +kernel, by decide +kernel⟩
theorem ok_meets_twice_at_once (T : Tx K mg a t_LAST_TIME t_MOST_WALKERS t_MOST_ROOM t_MOST_MEETINGS t_MOST_MANY) (B : BmAt mg base) : FnOk P w K mg base CX0 1 a.a_meets_twice_at_once a.d_meets_twice_at_once ["meetings"] (spTwiceG) := by
  refine T.F_meets_twice_at_once.ok sc_meets_twice_at_once (fun vs H Q E h => ?_) (fun cdv A outer s H vs Q E hr h => ?_)
  · obtain ⟨_, _, _, rfl, _⟩ := h; rfl
  · have nd := sc_meets_twice_at_once.nd
    have hu := hr.units
    obtain ⟨l, fs, w0, rfl, hL, n60, raw, qN, qY⟩ := h
    refine ⟨_, (@bl_out _ _ _ (@bl_c _ _ _ _ _ _ (ps_set (i := 1) nd rfl (by first | exact Or.inl rfl | exact Or.inr rfl) (pe_callTy0 call_setNew (by rfl) T.b_set PyProof.Rows.boot_set)) (@bl_c _ _ _ _ _ _ (ps_for PassesOwn.never rfl (@pi_list' _ _ _ _ _ rfl (pv 0)) (pg_tup' (n := 4) rfl rfl (pgs_cons (pg_name (i := 2) nd rfl (by first | exact Or.inl rfl | exact Or.inr rfl)) (pgs_cons (pg_name (i := 3) nd rfl (by first | exact Or.inl rfl | exact Or.inr rfl)) (pgs_cons (pg_name (i := 4) nd rfl (by first | exact Or.inl rfl | exact Or.inr rfl)) (pgs_cons (pg_name (i := 5) nd rfl (by first | exact Or.inl rfl | exact Or.inr rfl)) pgs_nil))))) (@bl_out _ _ _ (@bl_c _ _ _ _ _ _ (@ps_if _ _ _ _ _ _ _ _ (@PW.pt _ _ _ (@pw_or _ _ _ _ _ _ _ (@pt_cmpR _ _ _ _ _ _ _ _ (op_inS hu) (@pe_tup _ _ _ _ _ (@pa_out _ _ _ (@pa_c _ _ _ _ _ (pv 2) (@pa_c _ _ _ _ _ (pv 4) pa_n rfl) rfl))) (pv 1) rfl) (@pw_or1 _ _ _ _ (@pt_cmpR _ _ _ _ _ _ _ _ (op_inS hu) (@pe_tup _ _ _ _ _ (@pa_out _ _ _ (@pa_c _ _ _ _ _ (pv 3) (@pa_c _ _ _ _ _ (pv 4) pa_n rfl) rfl))) (pv 1) rfl)))) (@bl_out _ _ _ (@bl_1 _ _ _ (@ps_ret _ _ _ _ pe_bl))) pss_nil) (@bl_c _ _ _ _ _ _ (ps_expr (pe_bmS PySem.F.slot_set_add PySem.F.type_set_add (mt_addS hu) (pv 1) (@pa_out _ _ _ (@pa_c _ _ _ _ _ (@pe_tup _ _ _ _ _ (@pa_out _ _ _ (@pa_c _ _ _ _ _ (pv 2) (@pa_c _ _ _ _ _ (pv 4) pa_n rfl) rfl))) pa_n rfl)))) (@bl_1 _ _ _ (ps_expr (pe_bmS PySem.F.slot_set_add PySem.F.type_set_add (mt_addS hu) (pv 1) (@pa_out _ _ _ (@pa_c _ _ _ _ _ (@pe_tup _ _ _ _ _ (@pa_out _ _ _ (@pa_c _ _ _ _ _ (pv 3) (@pa_c _ _ _ _ _ (pv 4) pa_n rfl) rfl))) pa_n rfl))))))))) (@bl_1 _ _ _ (@ps_ret _ _ _ _ pe_bl))))), ?_⟩
    have line := line9
    refine ⟨rfl, fun sp hsp => ?_⟩
    refine ⟨_, rfl, l, rfl, ⟨_, (same_new hsp).seq (SqL.of hL.1)⟩, ?_⟩
    refine for_list (K := K) (a := l) (xs := fs.map fun a => V.ref a.1) (fun i σ H5 => ∃ xs : List (Addr × List Int), (∃ v2 v3 v4 v5, σ = [some (.ref l), some (.ref sp), v2, v3, v4, v5]) ∧ Same H H5 ∧ H5 sp = some (setO P w sp xs) ∧ (∀ e ∈ xs, H5 e.1 = some (.tup (e.2.map V.int))) ∧ xs.length ≤ 2 * i ∧ (∀ e ∈ xs, ∃ j, j < i ∧ ∃ r, fs[j]? = some r ∧ (e.2 = [r.2.lo, r.2.t] ∨ e.2 = [r.2.hi, r.2.t])) ∧ (∀ r ∈ fs.take i, [r.2.lo, r.2.t] ∈ xs.map (·.2) ∧ [r.2.hi, r.2.t] ∈ xs.map (·.2)) ∧ ((fs.take i).map (·.2)).Pairwise apt) ?_ ?_ ?_ ?_
    · exact ⟨[], ⟨_, _, _, _, rfl⟩, same_new hsp, upd_same, (fun _ z => nomatch z), Nat.zero_le _, (fun _ z => nomatch z), (fun _ z => nomatch z), List.Pairwise.nil⟩
    · rintro i σ H5 _ ⟨xs, _, sm, _⟩
      exact sm.seq (SqL.of hL.1)
    · rintro i x σ H5 hx ⟨xs, ⟨v2, v3, v4, v5, rfl⟩, sm, hs, hk, few, old, all2, pw⟩
      obtain ⟨r, hr, rfl⟩ := map_get hx
      have hi : i < fs.length := (List.getElem?_eq_some_iff.mp hr).1
      have hrow : H5 r.1 = some (.tup [.int r.2.lo, .int r.2.hi, .int r.2.t, .int r.2.m]) := sm _ _ (hL.2 r (List.mem_of_getElem? hr))
      have conf : ∀ k, (k = [r.2.lo, r.2.t] ∨ k = [r.2.hi, r.2.t]) → k ∈ xs.map (·.2) → ¬ (fs.map (·.2)).Pairwise apt := fun k hk2 z => by
        obtain ⟨e, he, rfl⟩ := List.mem_map.mp z
        obtain ⟨j, hj, r', hr', h⟩ := old e he
        refine not_pw (i := j) (j := i) (x := r'.2) (y := r.2) (by rw [List.getElem?_map, hr']; rfl) (by rw [List.getElem?_map, hr]; rfl) hj fun apt' => ?_
        rcases h with h | h <;> rcases hk2 with hk2 | hk2 <;> (rw [h] at hk2; injection hk2 with q1 q2; injection q2 with q2 _; have := apt' q2; unfold apart at this; omega)
      refine ⟨r.1, _, rfl, SqT.of hrow, rfl, _, _, rfl, _, _, rfl, _, _, rfl, _, _, rfl, rfl, ?_⟩
      have nsp : ∀ {t : Addr} {H9 : Hp} {o : HO}, H9 sp = some o → H9 t = none → t ≠ sp := fun a b z => by rw [z, a] at b; cases b
      refine ⟨_, rfl, _, rfl, by show 2 ≤ sizeLine; omega, fun t1 ht1 => ⟨_, rfl, sp, xs, t1, [r.2.lo, r.2.t], rfl, rfl, ?_, upd_same, fun e he => same_new ht1 _ _ (hk e he), _, rfl, ?_⟩⟩
      · rw [upd_ne (nsp hs ht1).symm]; exact hs
      have s1 := same_new (o := HO.tup [V.int r.2.lo, V.int r.2.t]) ht1
      by_cases d1 : [r.2.lo, r.2.t] ∈ xs.map (·.2)
      · rw [decide_eq_true d1]
        exact iteB1 rfl (iteB1 rfl (qY (conf _ (.inl rfl) d1) _ (sm.trans s1)))
      rw [decide_eq_false d1]
      have hs1 := s1 _ _ hs
      have hk1 := fun e he => s1 _ _ (hk e he)
      generalize upd H5 t1 (HO.tup [V.int r.2.lo, V.int r.2.t]) = H6 at *
      refine iteB0 rfl ⟨_, rfl, _, rfl, by show 2 ≤ sizeLine; omega, fun t2 ht2 => ⟨_, rfl, sp, xs, t2, [r.2.hi, r.2.t], rfl, rfl, same_new ht2 _ _ hs1, upd_same, fun e he => same_new ht2 _ _ (hk1 e he), _, rfl, ?_⟩⟩
      have s2 := s1.trans (same_new (o := HO.tup [V.int r.2.hi, V.int r.2.t]) ht2)
      by_cases d2 : [r.2.hi, r.2.t] ∈ xs.map (·.2)
      · rw [decide_eq_true d2]
        exact iteB1 rfl (qY (conf _ (.inr rfl) d2) _ (sm.trans s2))
      rw [decide_eq_false d2]
      have hs2 := same_new (o := HO.tup [V.int r.2.hi, V.int r.2.t]) ht2 _ _ hs1
      have hk2 := fun e he => same_new (o := HO.tup [V.int r.2.hi, V.int r.2.t]) ht2 _ _ (hk1 e he)
      generalize upd H6 t2 (HO.tup [V.int r.2.hi, V.int r.2.t]) = H7 at *
      refine iteB0 rfl ?_
      have ne : r.2.lo ≠ r.2.hi := (raw r.2 (List.mem_map.mpr ⟨r, List.mem_of_getElem? hr, rfl⟩)).2.2.2.2.1
      refine ⟨_, rfl, ⟨sp, xs, rfl, hs2⟩, _, rfl, _, rfl, by show 2 ≤ sizeLine; omega, fun t3 ht3 => ⟨sp, xs, t3, [r.2.lo, r.2.t], rfl, rfl, same_new ht3 _ _ hs2, upd_same, fun e he => same_new ht3 _ _ (hk2 e he), by omega, fun z => absurd z d1, fun _ => ?_⟩⟩
      have s3 := (sm.trans s2).trans (same_new (o := HO.tup [V.int r.2.lo, V.int r.2.t]) ht3)
      have s3' := Same.put (o := setO P w sp (xs ++ [(t3, [r.2.lo, r.2.t])])) hsp s3
      have n3 : t3 ≠ sp := fun z => by rw [z, hs2] at ht3; cases ht3
      have hk3 : ∀ e ∈ xs ++ [(t3, [r.2.lo, r.2.t])], upd (upd H7 t3 (HO.tup [V.int r.2.lo, V.int r.2.t])) sp (setO P w sp (xs ++ [(t3, [r.2.lo, r.2.t])])) e.1 = some (.tup (e.2.map V.int)) := fun e he => by
        rcases List.mem_append.mp he with h | h
        · have h1 := hk2 e h
          rw [upd_ne (ne_of h1 hs2 (by intro z; cases z))]
          exact same_new ht3 _ _ h1
        · cases List.mem_singleton.mp h
          show upd (upd H7 t3 _) sp _ t3 = _
          rw [upd_ne n3]; exact upd_same
      have hs8 : upd (upd H7 t3 (HO.tup [V.int r.2.lo, V.int r.2.t])) sp (setO P w sp (xs ++ [(t3, [r.2.lo, r.2.t])])) sp = some (setO P w sp (xs ++ [(t3, [r.2.lo, r.2.t])])) := upd_same
      refine ⟨_, rfl, ⟨sp, _, rfl, hs8⟩, _, rfl, _, rfl, by show 2 ≤ sizeLine; omega, fun t4 ht4 => ⟨sp, xs ++ [(t3, [r.2.lo, r.2.t])], t4, [r.2.hi, r.2.t], rfl, rfl, same_new ht4 _ _ hs8, upd_same, fun e he => same_new ht4 _ _ (hk3 e he), by rw [List.length_append, List.length_singleton]; omega, fun z => ?_, fun _ => ?_⟩⟩
      · exfalso
        rw [List.map_append] at z
        rcases List.mem_append.mp z with z | z
        · exact d2 z
        · have z := List.mem_singleton.mp z
          injection z with z _
          exact ne z.symm
      have n4 : t4 ≠ sp := fun z => by subst z; exact absurd (hs8.symm.trans ht4) (by intro h; cases h)
      refine ⟨xs ++ [(t3, [r.2.lo, r.2.t])] ++ [(t4, [r.2.hi, r.2.t])], ⟨_, _, _, _, rfl⟩, Same.put hsp (s3'.trans (same_new ht4)), upd_same, fun e he => ?_, by rw [List.length_append, List.length_append, List.length_singleton, List.length_singleton]; omega, fun e he => ?_, fun y hy => ?_, ?_⟩
      · rcases List.mem_append.mp he with h | h
        · have h1 := hk3 e h
          rw [upd_ne (ne_of h1 hs8 (by intro z; cases z))]
          exact same_new ht4 _ _ h1
        · cases List.mem_singleton.mp h
          show upd (upd _ t4 _) sp _ t4 = _
          rw [upd_ne n4]; exact upd_same
      · rcases List.mem_append.mp he with h | h
        · rcases List.mem_append.mp h with h | h
          · obtain ⟨j, hj, r', hr', e'⟩ := old e h
            exact ⟨j, by omega, r', hr', e'⟩
          · cases List.mem_singleton.mp h
            exact ⟨i, by omega, r, hr, .inl rfl⟩
        · cases List.mem_singleton.mp h
          exact ⟨i, by omega, r, hr, .inr rfl⟩
      · rw [take_snoc hr] at hy
        rcases List.mem_append.mp hy with h | h
        · obtain ⟨y1, y2⟩ := all2 y h
          rw [List.map_append, List.map_append]
          exact ⟨List.mem_append_left _ (List.mem_append_left _ y1), List.mem_append_left _ (List.mem_append_left _ y2)⟩
        · rw [List.mem_singleton.mp h, List.map_append, List.map_append]
          exact ⟨List.mem_append_left _ (List.mem_append_right _ (.head _)), List.mem_append_right _ (.head _)⟩
      · rw [take_snoc hr, List.map_append]
        refine pw_snoc pw fun y hy => ?_
        obtain ⟨z, hz, rfl⟩ := List.mem_map.mp hy
        obtain ⟨y1, y2⟩ := all2 z hz
        intro et
        rw [et] at y1 y2
        refine ⟨fun q => d1 (by rw [← q]; exact y1), fun q => d2 (by rw [← q]; exact y1), fun q => d1 (by rw [← q]; exact y2), fun q => d2 (by rw [← q]; exact y2)⟩
    · rintro σ H5 ⟨xs, ⟨v2, v3, v4, v5, rfl⟩, sm, _, _, _, _, _, pw⟩
      rw [List.length_map, List.take_length] at pw
      exact qN pw _ sm
theorem sc_lesser_first : FnScope ["meeting", "one", "other", "when", "many"] ["meeting"] (defScope s_lesser_first) := ⟨rfl, rfl, rfl, by decide +kernel, rfl, by decide +kernel, by decide +kernel⟩
theorem ok_lesser_first (T : Tx K mg a t_LAST_TIME t_MOST_WALKERS t_MOST_ROOM t_MOST_MEETINGS t_MOST_MANY) (B : BmAt mg base) : FnOk P w K mg base CX0 1 a.a_lesser_first a.d_lesser_first ["meeting"] (spLsrF) := by
  refine T.F_lesser_first.ok sc_lesser_first (fun vs H Q E h => ?_) (fun cdv A outer s H vs Q E hr h => ?_)
  · obtain ⟨t, r, rfl, _⟩ := h; rfl
  · have nd := sc_lesser_first.nd
    have hu := hr.units
    obtain ⟨t, r, rfl, ht, q⟩ := h
    refine ⟨_, (@bl_out _ _ _ (@bl_c _ _ _ _ _ _ (ps_asg (pv 0) (pg_tup' (n := 4) rfl rfl (pgs_cons (pg_name (i := 1) nd rfl (by first | exact Or.inl rfl | exact Or.inr rfl)) (pgs_cons (pg_name (i := 2) nd rfl (by first | exact Or.inl rfl | exact Or.inr rfl)) (pgs_cons (pg_name (i := 3) nd rfl (by first | exact Or.inl rfl | exact Or.inr rfl)) (pgs_cons (pg_name (i := 4) nd rfl (by first | exact Or.inl rfl | exact Or.inr rfl)) pgs_nil)))))) (@bl_1 _ _ _ (@ps_ret _ _ _ _ (@pe_tup _ _ _ _ _ (@pa_out _ _ _ (@pa_c _ _ _ _ _ (pe_callB (call_min2 rfl) (by rfl) T.b_min PyProof.Rows.boot_min (@pa_out _ _ _ (@pa_c _ _ _ _ _ (pv 1) (@pa_c _ _ _ _ _ (pv 2) pa_n rfl) rfl))) (@pa_c _ _ _ _ _ (pe_callB (call_max2 rfl) (by rfl) T.b_max PyProof.Rows.boot_max (@pa_out _ _ _ (@pa_c _ _ _ _ _ (pv 1) (@pa_c _ _ _ _ _ (pv 2) pa_n rfl) rfl))) (@pa_c _ _ _ _ _ (pv 3) (@pa_c _ _ _ _ _ (pv 4) pa_n rfl) rfl) rfl) rfl))))))), ?_⟩
    have line := line9
    have ht' : H t = some (.tup [.int r.lo, .int r.hi, .int r.t, .int r.m]) := ht
    simp only [gTup, gCons, gNil, tYes, tBM, rAppend, gSub, tAugS, ipI, rU, rIxL, rIxT, rSetL, tSeq, tAsg, tIfS, tRet, tOp, tUn, rI0, rI, tVar, tC, gName, tCall, tCB, tCons, tNil, tAndV, tOrV, tNotV, tNext, tTest, tB, tNot, tAnd, tOr, tDrop, rEq, rNe, scal, tChain, tTup, tLst, tSl, tNoPart, tPart, cxOf, L2.start, List.map_cons, List.map_nil, List.length_cons, List.length_nil, Nat.reduceAdd, Nat.reduceSub, List.replicate, List.cons_append, List.nil_append, List.append_nil, List.getElem?_cons_zero, List.getElem?_cons_succ, Option.some.injEq, exists_eq_left', exists_eq_left, exists_and_left, and_assoc, V.int.injEq, V.ty.injEq, V.str.injEq, V.bl.injEq, V.ref.injEq, List.cons.injEq, and_true, true_and, List.set_cons_zero, List.set_cons_succ]
    refine ⟨_, SqT.of ht', rfl, _, _, rfl, _, _, rfl, _, _, rfl, _, _, rfl, rfl, _, rfl, _, rfl, _, rfl, _, rfl, by omega, fun p hp => ?_⟩
    have e1 : (if r.hi < r.lo then r.hi else r.lo) = min r.lo r.hi := by split <;> omega
    have e2 : (if r.hi > r.lo then r.hi else r.lo) = max r.lo r.hi := by split <;> omega
    rw [e1, e2]
    exact q p _ (same_new hp) upd_same
theorem sc_made_book : FnScope ["rooms", "meetings", "meeting", "told"] ["rooms", "meetings"] (defScope s_made_book) := ⟨rfl, rfl, rfl, by decide +kernel, rfl, by decide +kernel, by decide +kernel⟩
theorem ok_made_book (T : Tx K mg a t_LAST_TIME t_MOST_WALKERS t_MOST_ROOM t_MOST_MEETINGS t_MOST_MANY) (B : BmAt mg base) : FnOk P w K mg base (CXE P w) 4 a.a_made_book a.d_made_book ["rooms", "meetings"] (spMade3 a.c_NoBook a.tP lamPos) := by
  have G_are_rooms := @ok_are_rooms P w _ _ base _ _ _ _ _ _ T B
  have G_is_meeting := @ok_is_meeting P w _ _ base _ _ _ _ _ _ T B
  have G_meets_twice_at_once := @ok_meets_twice_at_once P w _ _ base _ _ _ _ _ _ T B
  have G_lesser_first := @ok_lesser_first P w _ _ base _ _ _ _ _ _ T B
  refine T.F_made_book.okCE T.t_cd sc_made_book (fun vs H Q E h => ?_) (fun A outer s H vs Q E hr h => ?_)
  · rcases h with ⟨_, _, _, _, rfl, _⟩ | ⟨_, _, rfl, _⟩ <;> rfl
  · have nd := sc_made_book.nd
    have hu := hr.units
    skip
    refine ⟨_, (@bl_out _ _ _ (@bl_c _ _ _ _ _ _ (@ps_if _ _ _ _ _ _ _ _ (@pt_not _ _ _ _ (pt_val (pe_call G_are_rooms (hr.mono (by decide)) rfl T.m_are_rooms T.k_are_rooms T.i_are_rooms .nil pass0 (@pa_out _ _ _ (@pa_c _ _ _ _ _ (pv 0) pa_n rfl))))) (@bl_out _ _ _ (@bl_1 _ _ _ (ps_raise rfl rfl rfl rfl rfl T.m_NoBook T.x_NoBook))) pss_nil) (@bl_c _ _ _ _ _ _ (@ps_if _ _ _ _ _ _ _ _ (@PW.pt _ _ _ (@pw_or _ _ _ _ _ _ _ (@pt_not _ _ _ _ (pt_val (pe_callB (call_isinst) (by rfl) T.b_isinstance PyProof.Rows.boot_isinstance (@pa_out _ _ _ (@pa_c _ _ _ _ _ (pv 1) (@pa_c _ _ _ _ _ (pe_bltn (v := V.ty "list") rfl T.b_list PyProof.Rows.boot_list rfl) pa_n rfl) rfl))))) (@pw_or1 _ _ _ _ (@pt_cmpR _ _ _ _ _ _ _ _ op_gt (pe_callB (call_len_seq' rfl) (by rfl) T.b_len PySem.boot_len (@pa_out _ _ _ (@pa_c _ _ _ _ _ (pv 1) pa_n rfl))) (pe_glob (v := V.int 60) rfl T.c_MOST_MEETINGS ⟨_, rfl⟩) (nomark _))))) (@bl_out _ _ _ (@bl_1 _ _ _ (ps_raise rfl rfl rfl rfl rfl T.m_NoBook T.x_NoBook))) pss_nil) (@bl_c _ _ _ _ _ _ (ps_for pass_own rfl (@pi_list' _ _ _ _ _ rfl (pv 1)) (pg_name (i := 2) nd rfl (by first | exact Or.inl rfl | exact Or.inr rfl)) (@bl_out _ _ _ (@bl_1 _ _ _ (@ps_if _ _ _ _ _ _ _ _ (@pt_not _ _ _ _ (pt_val (pe_call G_is_meeting (hr.mono (by decide)) rfl T.m_is_meeting T.k_is_meeting T.i_is_meeting .nil pass0 (@pa_out _ _ _ (@pa_c _ _ _ _ _ (pe_callB (call_len_seq' rfl) (by rfl) T.b_len PySem.boot_len (@pa_out _ _ _ (@pa_c _ _ _ _ _ (pv 0) pa_n rfl))) (@pa_c _ _ _ _ _ (pv 2) pa_n rfl) rfl))))) (@bl_out _ _ _ (@bl_1 _ _ _ (ps_raise rfl rfl rfl rfl rfl T.m_NoBook T.x_NoBook))) pss_nil)))) (@bl_c _ _ _ _ _ _ (@ps_if _ _ _ _ _ _ _ _ (pt_val (pe_call G_meets_twice_at_once (hr.mono (by decide)) rfl T.m_meets_twice_at_once T.k_meets_twice_at_once T.i_meets_twice_at_once .nil pass0 (@pa_out _ _ _ (@pa_c _ _ _ _ _ (pv 1) pa_n rfl)))) (@bl_out _ _ _ (@bl_1 _ _ _ (ps_raise rfl rfl rfl rfl rfl T.m_NoBook T.x_NoBook))) pss_nil) (@bl_c _ _ _ _ _ _ (PS.nox (ps_setComp (ix := 3) nd rfl (by first | exact Or.inl rfl | exact Or.inr rfl) (own := ["meeting"]) (caps := []) rfl (show CompScope ["meeting"] [] ["rooms", "meetings", "meeting", "told"] (defScope s_made_book) _ from ⟨rfl, by decide +kernel, by decide +kernel, by decide +kernel, by decide +kernel⟩) (@pi_list' _ _ _ _ _ rfl (pv 1)) (fun _ _ _ _ => (pg_name (i := 0) (show List.Nodup (["meeting"] : List Str) from by decide +kernel) rfl (by first | exact Or.inl rfl | exact Or.inr rfl))) (fun _ _ _ _ => pts_nil) (fun _ _ _ _ => (pe_call G_lesser_first (hr.mono (by decide)) rfl T.m_lesser_first T.k_lesser_first T.i_lesser_first .nil pass0 (@pa_out _ _ _ (@pa_c _ _ _ _ _ (pv 0) pa_n rfl)))))) (@bl_1 _ _ _ (PS.nox (@ps_ret _ _ _ _ (@pe_tup _ _ _ _ _ (@pa_out _ _ _ (@pa_c _ _ _ _ _ (pe_callTy (call_tuple_of) (by rfl) T.b_tuple PyProof.Rows.boot_tuple (@pa_out _ _ _ (@pa_c _ _ _ _ _ (pv 0) pa_n rfl))) (@pa_c _ _ _ _ _ (pe_callTy (call_tuple_of) (by rfl) T.b_tuple PyProof.Rows.boot_tuple (@pa_out _ _ _ (@pa_c _ _ _ _ _ (pe_sortKey (N := ["row"]) (pn := "row") (ok := (fun l => l.length = 4)) (kf := keyF) rfl T.b_sorted rfl T.t_hd B rfl rfl (hr.mono (by decide)) ⟨rfl, rfl, rfl, by decide +kernel, rfl, by decide +kernel, by decide +kernel⟩ (fun _ _ _ _ => rfl) keyF_ne (fun _ _ _ _ _ => ⟨_, (@pe_tup _ _ _ _ _ (@pa_out _ _ _ (@pa_c _ _ _ _ _ (@pe_ix _ _ _ _ _ _ _ (ix_tup' rfl) (pv 0) pe_int (fun _ _ => rfl)) (@pa_c _ _ _ _ _ (@pe_ix _ _ _ _ _ _ _ (ix_tup' rfl) (pv 0) pe_int (fun _ _ => rfl)) pa_n rfl) rfl))), (by intro a r h ho; simp only [gTup, gCons, gNil, tYes, tBM, rAppend, gSub, tAugS, ipI, rU, rIxL, rIxT, rSetL, tSeq, tAsg, tIfS, tRet, tOp, tUn, rI0, rI, tVar, tC, gName, tCall, tCB, tCons, tNil, tAndV, tOrV, tNotV, tNext, tTest, tB, tNot, tAnd, tOr, tDrop, rEq, rNe, scal, tChain, tTup, tLst, tSl, tNoPart, tPart, cxOf, L2.start, List.map_cons, List.map_nil, List.length_cons, List.length_nil, Nat.reduceAdd, Nat.reduceSub, List.replicate, List.cons_append, List.nil_append, List.append_nil, List.getElem?_cons_zero, List.getElem?_cons_succ, Option.some.injEq, exists_eq_left', exists_eq_left, exists_and_left, and_assoc, V.int.injEq, V.ty.injEq, V.str.injEq, V.bl.injEq, V.ref.injEq, List.cons.injEq, and_true, true_and, List.set_cons_zero, List.set_cons_succ]; exact lam_key h ho)⟩) (pv 3) rfl) pa_n rfl))) pa_n rfl) rfl)))))))))))), ?_⟩
    have line := line9
    rcases h with ⟨pr, pm, rooms, fs, rfl, hp, h1, h12, hr9, hL, raw, mt, q⟩ | ⟨r, m, rfl, rf, q⟩
    · have ra : RoomsAt H pr rooms := ⟨hp, h1, h12, hr9⟩
      have n60 : fs.length ≤ 60 := by have := raw.few; rw [List.length_map] at this; exact this
      obtain ⟨dr, sr, vr⟩ := da_rooms ra
      refine ⟨_, rfl, .ref pr, _, rfl, dr, sr, fun H1 s1 => ?_⟩
      rw [vr]
      refine ⟨_, rfl, iteB0 rfl ?_⟩
      refine ⟨_, rfl, _, "list", "list", rfl, tyS_lst (s1 _ _ hL.1), .inr (.inr (.inl rfl)), _, rfl, iteB0 rfl ?_⟩
      refine ⟨_, rfl, pm, _, rfl, .inl (SqL.of (s1 _ _ hL.1)), _, _, rfl, rfl, _, rfl, iteB0 (decide_eq_false (by rw [List.length_map]; omega)) ?_⟩
      refine ⟨_, rfl, pm, rfl, ⟨_, SqL.of (s1 _ _ hL.1)⟩, ?_⟩
      refine for_list (K := K) (a := pm) (xs := fs.map fun a => V.ref a.1) (fun i σ H5 => (∃ v2, σ = [some (.ref pr), some (.ref pm), v2, none]) ∧ H1 = H5) ⟨⟨_, rfl⟩, rfl⟩ ?_ ?_ ?_
      · rintro i σ H5 _ ⟨_, rfl⟩
        exact SqL.of (s1 _ _ hL.1)
      · rintro i x σ H5 hx ⟨⟨v2, rfl⟩, rfl⟩
        obtain ⟨r, hr, rfl⟩ := map_get hx
        have hm := List.mem_of_getElem? hr
        obtain ⟨⟨d, hd⟩, mv⟩ := da_row (w := ((List.map V.int rooms).length : Int)) (H := H1) (r := r) (s1 _ _ (hL.2 r hm)) (by rw [List.length_map]; exact raw.each r.2 (List.mem_map.mpr ⟨r, hm, rfl⟩))
        exact ⟨_, rfl, pr, _, rfl, .inl (SqL.of (s1 _ _ hp)), _, rfl, _, .ref r.1, d, rfl, hd, _, rfl, iteB0 (by rw [mv]; rfl) ⟨⟨_, rfl⟩, rfl⟩⟩
      rintro σ H5 ⟨⟨v2, rfl⟩, rfl⟩
      refine ⟨_, rfl, pm, fs, _, rfl, hL.same s1, n60, raw.each, fun _ H2 s2 => ⟨_, rfl, iteB0 rfl ?_⟩, fun no => absurd raw.pw no⟩
      have s12 := s1.trans s2
      refine ⟨_, rfl, pm, rfl, ⟨_, SqL.of (s12 _ _ hL.1)⟩, ?_⟩
      refine comp_list (K := K) (a := pm) (xs := fs.map fun a => V.ref a.1) (fun i τ acc H5 => ∃ ts : List (Addr × M4), (∃ t0, τ = [t0]) ∧ acc = (ts.map fun a => V.ref a.1) ∧ ts.map (·.2) = (fs.take i).map (fun a => a.2.norm) ∧ RowsAt H5 ts ∧ Same H H5) ⟨[], ⟨_, rfl⟩, rfl, rfl, (fun _ z => nomatch z), s12⟩ (by rw [List.length_map]; omega) ?_ ?_ ?_
      · rintro i τ acc H5 ⟨ts, ⟨t0, rfl⟩, rfl, ets, rw5, sm⟩
        have := congrArg List.length ets
        rw [List.length_map, List.length_map, List.length_take] at this
        exact ⟨by rw [List.length_map]; omega, SqL.of (sm _ _ hL.1)⟩
      · rintro i x τ acc H5 C hx ⟨ts, ⟨t0, rfl⟩, rfl, ets, rw5, sm⟩ hC
        obtain ⟨r, hr, rfl⟩ := map_get hx
        refine ⟨_, rfl, r.1, r.2, rfl, sm _ _ (hL.2 r (List.mem_of_getElem? hr)), fun t' H6 s6 ht' => hC _ _ _ ⟨ts ++ [(t', r.2.norm)], ⟨_, rfl⟩, by rw [List.map_append]; rfl, by rw [List.map_append, take_snoc hr, List.map_append, ets]; rfl, fun a ha => ?_, sm.trans s6⟩⟩
        rcases List.mem_append.mp ha with h | h
        · exact s6 _ _ (rw5 a h)
        · cases List.mem_singleton.mp h
          exact ht'
      rintro τ acc H5 ⟨ts, ⟨t0, rfl⟩, rfl, ets, rw5, sm⟩ lt hlt
      rw [List.length_map, List.take_length] at ets
      have lts : ts.length = fs.length := by have := congrArg List.length ets; rwa [List.length_map, List.length_map] at this
      have sn := same_new (o := HO.lst (ts.map fun a => V.ref a.1)) hlt
      have h6 : upd H5 lt (HO.lst (ts.map fun a => V.ref a.1)) lt = some (.lst (ts.map fun a => V.ref a.1)) := upd_same
      have s6 := sm.trans sn
      have rw6 := rw5.tups (Tups.same sn)
      generalize upd H5 lt (HO.lst (ts.map fun a => V.ref a.1)) = H6 at *
      refine ⟨_, rfl, pr, _, rfl, .inl ⟨SqL.of (s6 _ _ hp), fun tr htr => ?_⟩⟩
      have s7 := same_new (o := HO.tup (rooms.map V.int)) htr
      have h7r : upd H6 tr (HO.tup (rooms.map V.int)) tr = some (.tup (rooms.map V.int)) := upd_same
      have rw7 := rw6.tups (Tups.same s7)
      have h7 := s7 _ _ h6
      generalize upd H6 tr (HO.tup (rooms.map V.int)) = H7 at *
      have m7 := L2.MT.same mt (s6.trans s7)
      refine ⟨_, rfl, lt, ts.map (fun a => (a.1, a.2.ints)), rfl, by rw [List.map_map]; exact h7, by rw [List.length_map]; omega, m7, fun x hx => ?_, fun l qs H8 hl8 b8 m8 h8 pm8 so8 => ?_⟩
      · obtain ⟨y, hy, rfl⟩ := List.mem_map.mp hx
        exact ⟨rw7 y hy, rfl⟩
      obtain ⟨ps, pps, sps, rfl⟩ := keyed_back pm8 so8
      have gd : Good rooms.length (ps.map (·.2)) := by
        refine Loose.good2 ?_ pps sps
        have := raw.loose
        rw [List.map_map] at this
        rw [ets]; exact this
      refine ⟨l, _, rfl, .inl ⟨SqL.of h8, fun tm htm => ⟨by show 2 ≤ sizeLine; omega, fun b hb => ?_⟩⟩⟩
      have neT : ∀ x u, H7 x = some u → (∀ ys, u ≠ .tbl ys) → x ≠ a.tP := fun x u e n z => by
        rcases m7 with m | ⟨_, m, _⟩ <;> (rw [z, m] at e; cases e; exact n _ rfl)
      have s9 := (same_new (o := HO.tup (List.map (fun a => V.ref a.1) (List.map (fun a : Addr × M4 => (a.1, a.2.ints)) ps))) htm).trans (same_new (o := HO.tup [V.ref tr, V.ref tm]) hb)
      refine q b tr tm ps _ (fun x u n e => s9 _ _ (b8 x u n (s7 _ _ (s6 _ _ e)))) (L2.MT.same m8 s9) ⟨upd_same, s9 _ _ (b8 _ _ (neT _ _ h7r (by intro ys z; cases z)) h7r), ?_, fun x hx => ?_⟩ gd ?_
      · rw [upd_ne (ne_of_none upd_same hb), upd_same, List.map_map]; rfl
      · have h0 := rw7 x (pps.mem_iff.mp hx)
        exact s9 _ _ (b8 _ _ (neT _ _ h0 (by intro ys z; cases z)) h0)
      · have := pps.map (·.2)
        rw [ets] at this
        exact this
    rcases rf with ⟨⟨d, hd⟩, sh, no⟩ | ⟨pr, rooms, rfl, ra, rf⟩
    · refine ⟨_, rfl, r, _, rfl, hd, sh, fun H1 s1 => ?_⟩
      rw [no]
      exact ⟨_, rfl, iteB1 rfl (q _ s1)⟩
    · have hp := ra.1
      obtain ⟨dr, sr, vr⟩ := da_rooms ra
      refine ⟨_, rfl, .ref pr, _, rfl, dr, sr, fun H1 s1 => ?_⟩
      rw [vr]
      refine ⟨_, rfl, iteB0 rfl ?_⟩
      rcases rf with ⟨⟨d, hd⟩, sh, bad⟩ | ⟨pm, fs, rfl, hL, n60, raw, bad⟩
      · rcases da_list hd with ⟨pm, xs, rfl, hm, hx⟩ | ⟨⟨t, ht, hs⟩, no⟩
        · have l1 := sh _ _ rfl hm
          refine ⟨_, rfl, _, "list", "list", rfl, tyS_lst (s1 _ _ hm), .inr (.inr (.inl rfl)), _, rfl, iteB0 rfl ?_⟩
          refine ⟨_, rfl, pm, _, rfl, .inl (SqL.of (s1 _ _ hm)), _, _, rfl, rfl, _, rfl, iteB (fun _ => q _ s1) fun c => ?_⟩
          obtain ⟨y, hy, no⟩ := bad _ _ rfl hm (by have := of_decide_eq_false c; omega)
          refine ⟨_, rfl, pm, rfl, ⟨_, SqL.of (s1 _ _ hm)⟩, ?_⟩
          refine for_list (K := K) (a := pm) (xs := xs) (fun i σ H5 => (∃ v2, σ = [some (.ref pr), some (.ref pm), v2, none]) ∧ H1 = H5 ∧ ∀ y ∈ xs.take i, meetV rooms.length H y = true) ⟨⟨_, rfl⟩, rfl, nofun⟩ ?_ ?_ ?_
          · rintro i σ H5 _ ⟨_, rfl, _⟩
            exact SqL.of (s1 _ _ hm)
          · rintro i x σ H5 hxi ⟨⟨v2, rfl⟩, rfl, al⟩
            obtain ⟨d', k'⟩ := hx x (List.mem_of_getElem? hxi)
            refine ⟨_, rfl, pr, _, rfl, .inl (SqL.of (s1 _ _ hp)), _, rfl, _, x, d', rfl, k'.same s1, _, rfl, ?_⟩
            rw [meetV_same k' s1, List.length_map]
            cases c : meetV rooms.length H x with
            | false => exact iteB1 rfl (q _ s1)
            | true =>
              refine iteB0 rfl ⟨⟨_, rfl⟩, rfl, fun y hy => ?_⟩
              rw [take_snoc hxi] at hy
              rcases List.mem_append.mp hy with h | h
              · exact al y h
              · rw [List.mem_singleton.mp h]; exact c
          · rintro σ H5 ⟨_, rfl, al⟩
            rw [List.take_length] at al
            rw [al y hy] at no
            cases no
        · exact ⟨_, rfl, _, t, "list", rfl, tyS_same s1 ht, .inr (.inr (.inl rfl)), _, rfl, iteB1 (by show (!isSub t "list") = true; rw [hs]; rfl) (q _ s1)⟩
      · refine ⟨_, rfl, _, "list", "list", rfl, tyS_lst (s1 _ _ hL.1), .inr (.inr (.inl rfl)), _, rfl, iteB0 rfl ?_⟩
        refine ⟨_, rfl, pm, _, rfl, .inl (SqL.of (s1 _ _ hL.1)), _, _, rfl, rfl, _, rfl, iteB0 (decide_eq_false (by rw [List.length_map]; omega)) ?_⟩
        refine ⟨_, rfl, pm, rfl, ⟨_, SqL.of (s1 _ _ hL.1)⟩, ?_⟩
        refine for_list (K := K) (a := pm) (xs := fs.map fun a => V.ref a.1) (fun i σ H5 => (∃ v2, σ = [some (.ref pr), some (.ref pm), v2, none]) ∧ H1 = H5) ⟨⟨_, rfl⟩, rfl⟩ ?_ ?_ ?_
        · rintro i σ H5 _ ⟨_, rfl⟩
          exact SqL.of (s1 _ _ hL.1)
        · rintro i x σ H5 hx ⟨⟨v2, rfl⟩, rfl⟩
          obtain ⟨r, hr, rfl⟩ := map_get hx
          have hm := List.mem_of_getElem? hr
          obtain ⟨⟨d, hd⟩, mv⟩ := da_row (w := ((List.map V.int rooms).length : Int)) (H := H1) (r := r) (s1 _ _ (hL.2 r hm)) (by rw [List.length_map]; exact raw r.2 (List.mem_map.mpr ⟨r, hm, rfl⟩))
          exact ⟨_, rfl, pr, _, rfl, .inl (SqL.of (s1 _ _ hp)), _, rfl, _, .ref r.1, d, rfl, hd, _, rfl, iteB0 (by rw [mv]; rfl) ⟨⟨_, rfl⟩, rfl⟩⟩
        rintro σ H5 ⟨⟨v2, rfl⟩, rfl⟩
        exact ⟨_, rfl, pm, fs, _, rfl, hL.same s1, n60, raw, fun pw => absurd pw bad, fun _ H2 s2 => ⟨_, rfl, iteB1 rfl (q _ (s1.trans s2))⟩⟩
theorem sc__law_bad_rooms : FnScope ["_law_purse_here", "_law_rooms_here", "_law_at", "_law_way", "_law_bad"] ["_law_purse_here", "_law_rooms_here"] (defScope s__law_bad_rooms) := ⟨rfl, rfl, rfl, by decide +kernel, rfl, by decide +kernel, by decide +kernel⟩
theorem ok__law_bad_rooms (T : Tx K mg a t_LAST_TIME t_MOST_WALKERS t_MOST_ROOM t_MOST_MEETINGS t_MOST_MANY) (B : BmAt mg base) : FnOk P w K mg base CX0 2 a.a__law_bad_rooms a.d__law_bad_rooms ["_law_purse_here", "_law_rooms_here"] (spBadR3) := by
  have G__law_take := @ok__law_take P w _ _ base _ _ _ _ _ _ T B
  refine T.F__law_bad_rooms.ok sc__law_bad_rooms (fun vs H Q E h => ?_) (fun cdv A outer s H vs Q E hr h => ?_)
  · obtain ⟨_, _, _, rfl, _⟩ := h; rfl
  · have nd := sc__law_bad_rooms.nd
    have hu := hr.units
    obtain ⟨p, lr, rooms, rfl, pu, np, ra, q⟩ := h
    refine ⟨_, (@bl_out _ _ _ (@bl_c _ _ _ _ _ _ (ps_set (i := 2) nd rfl (by first | exact Or.inl rfl | exact Or.inr rfl) (pe_call G__law_take (hr.mono (by decide)) rfl T.m__law_take T.k__law_take T.i__law_take .nil pass0 (@pa_out _ _ _ (@pa_c _ _ _ _ _ (pv 0) (@pa_c _ _ _ _ _ (pe_callB (call_len_seq' rfl) (by rfl) T.b_len PySem.boot_len (@pa_out _ _ _ (@pa_c _ _ _ _ _ (pv 1) pa_n rfl))) pa_n rfl) rfl)))) (@bl_c _ _ _ _ _ _ (ps_set (i := 3) nd rfl (by first | exact Or.inl rfl | exact Or.inr rfl) (pe_call G__law_take (hr.mono (by decide)) rfl T.m__law_take T.k__law_take T.i__law_take .nil pass0 (@pa_out _ _ _ (@pa_c _ _ _ _ _ (pv 0) (@pa_c _ _ _ _ _ pe_int pa_n rfl) rfl)))) (@bl_c _ _ _ _ _ _ (@ps_if _ _ _ _ _ _ _ _ (@pt_cmpR _ _ _ _ _ _ _ _ op_eq (pv 3) pe_int (nomark _)) (@bl_out _ _ _ (@bl_1 _ _ _ (@ps_ret _ _ _ _ (@pe_ix _ _ _ _ _ _ _ (ix_list' rfl) (@pe_lst _ _ _ _ (@pa_out _ _ _ (@pa_c _ _ _ _ _ (pe_callTy (call_tuple_of) (by rfl) T.b_tuple PyProof.Rows.boot_tuple (@pa_out _ _ _ (@pa_c _ _ _ _ _ (pv 1) pa_n rfl))) (@pa_c _ _ _ _ _ pe_non (@pa_c _ _ _ _ _ pe_dnewK (@pa_c _ _ _ _ _ pe_str pa_n rfl) rfl) rfl) rfl))) (@pe_op _ _ _ _ _ _ _ _ op_mod (pv 2) pe_int) (fun _ _ => rfl))))) pss_nil) (@bl_c _ _ _ _ _ _ (@ps_if _ _ _ _ _ _ _ _ (@pt_cmpR _ _ _ _ _ _ _ _ op_eq (pv 3) pe_int (nomark _)) (@bl_out _ _ _ (@bl_1 _ _ _ (@ps_ret _ _ _ _ (@pe_ix _ _ _ _ _ _ _ (ix_list' rfl) (@pe_lst _ _ _ _ (@pa_out _ _ _ (@pa_c _ _ _ _ _ (@pe_lst _ _ _ _ pa_nil) (@pa_c _ _ _ _ _ (@pe_op _ _ _ _ _ _ _ _ op_cat (pv 1) (@pe_op _ _ _ _ _ _ _ _ op_rep (@pe_lst _ _ _ _ (@pa_out _ _ _ (@pa_c _ _ _ _ _ pe_int pa_n rfl))) (@pe_op _ _ _ _ _ _ _ _ op_sub pe_int (pe_callB (call_len_seq' rfl) (by rfl) T.b_len PySem.boot_len (@pa_out _ _ _ (@pa_c _ _ _ _ _ (pv 1) pa_n rfl)))))) pa_n rfl) rfl))) (@pe_op _ _ _ _ _ _ _ _ op_mod (pv 2) pe_int) (fun _ _ => rfl))))) pss_nil) (@bl_c _ _ _ _ _ _ (@ps_set _ _ 4 _ _ _ _ nd rfl (by first | exact Or.inl rfl | exact Or.inr rfl) (@pe_ix _ _ _ _ _ _ _ (ix_list' rfl) (@pe_lst _ _ _ _ (@pa_out _ _ _ (@pa_c _ _ _ _ _ (@pe_un _ _ _ _ _ _ un_neg pe_int) (@pa_c _ _ _ _ _ pe_int (@pa_c _ _ _ _ _ pe_bl (@pa_c _ _ _ _ _ pe_non (@pa_c _ _ _ _ _ pe_str (@pa_c _ _ _ _ _ (@pe_op _ _ _ _ _ _ _ _ op_pow pe_int pe_int) (@pa_c _ _ _ _ _ (@pe_tup _ _ _ _ _ (@pa_out _ _ _ (@pa_c _ _ _ _ _ pe_int pa_n rfl))) (@pa_c _ _ _ _ _ (@pe_un _ _ _ _ _ _ un_neg (@pe_op _ _ _ _ _ _ _ _ op_pow pe_int pe_int)) (@pa_c _ _ _ _ _ (@pe_lst _ _ _ _ (@pa_out _ _ _ (@pa_c _ _ _ _ _ pe_int pa_n rfl))) (@pa_c _ _ _ _ _ pe_dnewK pa_n rfl) rfl) rfl) rfl) rfl) rfl) rfl) rfl) rfl) rfl))) (pe_call G__law_take (hr.mono (by decide)) rfl T.m__law_take T.k__law_take T.i__law_take .nil pass0 (@pa_out _ _ _ (@pa_c _ _ _ _ _ (pv 0) (@pa_c _ _ _ _ _ pe_int pa_n rfl) rfl))) (fun _ _ => rfl)) rfl (by first | exact .inl rfl | exact .inr rfl | assumption)) (@bl_1 _ _ _ (@ps_ret _ _ _ _ (@pe_op _ _ _ _ _ _ _ _ op_cat (@pe_op _ _ _ _ _ _ _ _ op_cat (@pe_slice _ _ _ _ _ _ _ _ _ _ (sl_list' rfl) (pv 1) po_none (@po_some _ _ _ (pv 2))) (@pe_lst _ _ _ _ (@pa_out _ _ _ (@pa_c _ _ _ _ _ (pv 4) pa_n rfl)))) (@pe_slice _ _ _ _ _ _ _ _ _ _ (sl_list' rfl) (pv 1) (@po_some _ _ _ (@pe_op _ _ _ _ _ _ _ _ op_add (pv 2) pe_int)) po_none)))))))))), ?_⟩
    have line := line9
    obtain ⟨hr, r1, r2, r9⟩ := ra
    have c20 : CPow 10 20 := ⟨by decide, by decide, by decide⟩
    have lm : (List.map V.int rooms).length = rooms.length := List.length_map ..
    have din : ∀ {H' : Hp} {x : V}, x ∈ List.map V.int rooms → DO H' 0 30 x := fun {H' x} hx => by
      obtain ⟨i, hi, rfl⟩ := List.mem_map.mp hx
      obtain ⟨a, b⟩ := r9 i hi
      exact DO.small (by omega)
    refine ⟨_, rfl, _, rfl, lr, _, rfl, .inl (SqL.of hr), p, _, rfl, by omega, by rw [lm]; omega, pu, fun at0 H1 a0 a1 g1 => ?_⟩
    obtain ⟨n, rfl⟩ := Int.eq_ofNat_of_zero_le a0
    have hn : n < rooms.length := by rw [lm] at a1; omega
    refine ⟨_, rfl, p, _, rfl, by decide, by decide, g1.2, fun way H2 w0 w1 g2 => ?_⟩
    have g12 := g1.trans g2
    have hr2 : H2 lr = some (.lst (List.map V.int rooms)) := g12.1 _ _ np hr
    clear g1 g2 hr
    refine ⟨_, rfl, rfl, _, rfl, iteB (fun _ => ?_) fun _ => ?_⟩
    · refine ⟨_, rfl, lr, _, rfl, .inl ⟨SqL.of hr2, fun t1 ht1 t2 ht2 => ⟨by show 4 ≤ _; omega, fun l hl => ?_⟩⟩⟩
      have s1 := same_new (o := HO.tup (List.map V.int rooms)) ht1
      have s2 := same_new (o := HO.dK []) ht2
      have s3 := same_new (o := HO.lst [V.ref t1, V.non, V.ref t2, V.str (Str.ofString "12")]) hl
      have G := ((g12.new (o := HO.tup (List.map V.int rooms)) ht1).new (o := HO.dK []) ht2).new (o := HO.lst [V.ref t1, V.non, V.ref t2, V.str (Str.ofString "12")]) hl
      have n1 : t1 ≠ p := g12.2.ne ht1
      have n2 : t2 ≠ p := (g12.2.new ht1).ne ht2
      have k1 := s3 _ _ (s2 _ _ (upd_same (H := H2) (a := t1) (o := HO.tup (List.map V.int rooms))))
      have k2 := s3 _ _ (upd_same (H := upd H2 t1 (HO.tup (List.map V.int rooms))) (a := t2) (o := HO.dK []))
      have kl : upd (upd (upd H2 t1 (HO.tup (List.map V.int rooms))) t2 (HO.dK [])) l (HO.lst [V.ref t1, V.non, V.ref t2, V.str (Str.ofString "12")]) l = some (.lst [V.ref t1, V.non, V.ref t2, V.str (Str.ofString "12")]) := upd_same
      generalize upd (upd (upd H2 t1 (HO.tup (List.map V.int rooms))) t2 (HO.dK [])) l (HO.lst [V.ref t1, V.non, V.ref t2, V.str (Str.ofString "12")]) = H3 at G k1 k2 kl ⊢
      obtain ⟨v, av, mv⟩ := atI_ex (xs := [V.ref t1, V.non, V.ref t2, V.str (Str.ofString "12")]) (i := (n : Int) % 4) (Int.emod_nonneg _ (by decide)) (Int.emod_lt_of_pos _ (by decide))
      refine ⟨_, rfl, _, _, rfl, rfl, by show (0 : Int) < 4; decide, l, _, _, _, rfl, rfl, SqL.of kl, av, ?_⟩
      simp only [List.mem_cons, List.not_mem_nil, or_false] at mv
      rcases mv with rfl | rfl | rfl | rfl
      · exact q _ _ G ((DO.tup (k := 0) (n := 30) (m := 12) (by rw [hid_ne n1]; exact k1) (fun x hx => din hx) (by omega)).mono (by decide) (by decide)) (short_no (fun p' xs' e e' => by cases e; rw [k1] at e'; cases e')) (roomsV_no (fun p' xs' e e' => by cases e; rw [k1] at e'; cases e'))
      · exact q _ _ G (DO.non.mono (by decide) (by decide)) (short_no (flat_no rfl)) rfl
      · exact q _ _ G ((DO.dct (by rw [hid_ne n2]; exact k2)).mono (by decide) (by decide)) (short_no (fun p' xs' e e' => by cases e; rw [k2] at e'; cases e')) (roomsV_no (fun p' xs' e e' => by cases e; rw [k2] at e'; cases e'))
      · exact q _ _ G ((str_do _ (by decide +kernel)).mono (by decide) (by decide)) (short_no (flat_no rfl)) rfl
    refine ⟨_, rfl, rfl, _, rfl, iteB (fun _ => ?_) fun _ => ?_⟩
    · refine ⟨Nat.zero_le _, fun t1 ht1 => ⟨_, rfl, by show 1 ≤ _; omega, fun t2 ht2 => ⟨_, rfl, lr, _, rfl, .inl (SqL.of (same_new ht2 _ _ (same_new ht1 _ _ hr2))), _, _, rfl, rfl, ?_⟩⟩⟩
      refine ⟨t2, _, _, rfl, rfl, upd_same, by rw [lm]; omega, by rw [lm]; omega, by rw [lm]; show 1 * _ ≤ _; omega, fun t3 ht3 => ?_⟩
      have s1 := same_new (o := HO.lst []) ht1
      have s2 := same_new (o := HO.lst [V.int 1]) ht2
      have eR : (List.replicate (13 - ((List.map V.int rooms).length : Int)).toNat [V.int 1]).flatten = List.map V.int (List.replicate (13 - rooms.length) 1) := by
        rw [lm, show (13 - (rooms.length : Int)).toNat = 13 - rooms.length by omega]
        generalize 13 - rooms.length = j
        induction j with
        | zero => rfl
        | succ j ih => rw [List.replicate_succ, List.flatten_cons, ih, List.replicate_succ, List.map_cons]; rfl
      have g3 := (g12.new (o := HO.lst []) ht1).new (o := HO.lst [V.int 1]) ht2
      rw [eR]
      have s3 := same_new (o := HO.lst (List.map V.int (List.replicate (13 - rooms.length) 1))) ht3
      refine ⟨lr, t3, _, _, rfl, rfl, s3 _ _ (s2 _ _ (s1 _ _ hr2)), upd_same, by rw [lm, List.length_map, List.length_replicate]; omega, fun t4 ht4 => ⟨by show 2 ≤ _; omega, fun l hl => ?_⟩⟩
      have s4 := same_new (o := HO.lst (List.map V.int rooms ++ List.map V.int (List.replicate (13 - rooms.length) 1))) ht4
      have s5 := same_new (o := HO.lst [V.ref t1, V.ref t4]) hl
      have g4 := g3.new (o := HO.lst (List.map V.int (List.replicate (13 - rooms.length) 1))) ht3
      have G := (g4.new (o := HO.lst (List.map V.int rooms ++ List.map V.int (List.replicate (13 - rooms.length) 1))) ht4).new (o := HO.lst [V.ref t1, V.ref t4]) hl
      have n1 : t1 ≠ p := g12.2.ne ht1
      have n4 : t4 ≠ p := g4.2.ne ht4
      have k1 := s5 _ _ (s4 _ _ (s3 _ _ (s2 _ _ (upd_same (H := H2) (a := t1) (o := HO.lst [])))))
      have k4 := s5 _ _ (upd_same (H := upd (upd (upd H2 t1 (HO.lst [])) t2 (HO.lst [V.int 1])) t3 (HO.lst (List.map V.int (List.replicate (13 - rooms.length) 1)))) (a := t4) (o := HO.lst (List.map V.int rooms ++ List.map V.int (List.replicate (13 - rooms.length) 1))))
      obtain ⟨v, av, mv⟩ := atI_ex (xs := [V.ref t1, V.ref t4]) (i := (n : Int) % 2) (Int.emod_nonneg _ (by decide)) (Int.emod_lt_of_pos _ (by decide))
      refine ⟨_, rfl, _, _, rfl, rfl, by show (0 : Int) < 2; decide, l, _, _, _, rfl, rfl, SqL.of upd_same, av, ?_⟩
      simp only [List.mem_cons, List.not_mem_nil, or_false] at mv
      rcases mv with rfl | rfl
      · exact q _ _ G ((DO.lst (k := 0) (n := 30) (m := 0) (vs := []) (by rw [hid_ne n1]; exact k1) nofun (Nat.le_refl 0)).mono (by decide) (by decide)) (fun p' xs' e e' => by cases e; rw [k1] at e'; cases e'; exact Nat.zero_le _) (by rw [roomsV_yes k1]; rfl)
      · have l13 : (List.map V.int rooms ++ List.map V.int (List.replicate (13 - rooms.length) 1)).length = 13 := by rw [List.length_append, lm, List.length_map, List.length_replicate]; omega
        refine q _ _ G ((DO.lst (k := 0) (n := 30) (m := 13) (by rw [hid_ne n4]; exact k4) (fun x hx => ?_) (by omega)).mono (by decide) (by decide)) (fun p' xs' e e' => by cases e; rw [k4] at e'; cases e'; omega) (by rw [roomsV_yes k4, l13]; rfl)
        rcases List.mem_append.mp hx with h | h
        · exact din h
        · obtain ⟨i, hi, rfl⟩ := List.mem_map.mp h
          rw [List.eq_of_mem_replicate hi]; exact DO.small (by decide)
    · refine ⟨_, rfl, _, _, rfl, rfl, c20, by show 1 ≤ _; omega, fun t1 ht1 => ⟨_, _, rfl, rfl, c20, _, rfl, by show 1 ≤ _; omega, fun t2 ht2 t3 ht3 => ⟨by show 10 ≤ _; omega, fun l hl => ⟨_, rfl, p, 10, rfl, by decide, by decide, (((g12.2.new ht1).new ht2).new ht3).new hl, fun e H3 e0 e1 g3 => ?_⟩⟩⟩⟩
      have s1 := same_new (o := HO.tup [V.int 1]) ht1
      have s2 := same_new (o := HO.lst [V.int 1]) ht2
      have s3 := same_new (o := HO.dK []) ht3
      have s4 := same_new (o := HO.lst [V.int (-1), V.int 100, V.bl true, V.non, V.str (Str.ofString "1"), V.int (10 ^ Int.toNat 20), V.ref t1, V.int (-10 ^ Int.toNat 20), V.ref t2, V.ref t3]) hl
      have n1 : t1 ≠ p := g12.2.ne ht1
      have n2 : t2 ≠ p := (g12.2.new ht1).ne ht2
      have n3 : t3 ≠ p := ((g12.2.new ht1).new ht2).ne ht3
      have k1 := g3.1 _ _ n1 (s4 _ _ (s3 _ _ (s2 _ _ (upd_same (H := H2) (a := t1) (o := HO.tup [V.int 1])))))
      have k2 := g3.1 _ _ n2 (s4 _ _ (s3 _ _ (upd_same (a := t2) (o := HO.lst [V.int 1]))))
      have k3 := g3.1 _ _ n3 (s4 _ _ (upd_same (a := t3) (o := HO.dK [])))
      have hr3 := g3.1 _ _ np (s4 _ _ (s3 _ _ (s2 _ _ (s1 _ _ hr2))))
      have G := ((((g12.new (o := HO.tup [V.int 1]) ht1).new (o := HO.lst [V.int 1]) ht2).new (o := HO.dK []) ht3).new (o := HO.lst [V.int (-1), V.int 100, V.bl true, V.non, V.str (Str.ofString "1"), V.int (10 ^ Int.toNat 20), V.ref t1, V.int (-10 ^ Int.toNat 20), V.ref t2, V.ref t3]) hl).trans g3
      obtain ⟨v, av, mv⟩ := atI_ex (xs := [V.int (-1), V.int 100, V.bl true, V.non, V.str (Str.ofString "1"), V.int (10 ^ Int.toNat 20), V.ref t1, V.int (-10 ^ Int.toNat 20), V.ref t2, V.ref t3]) e0 (by exact e1)
      refine ⟨l, _, _, _, rfl, rfl, SqL.of (g3.1 _ _ ((((g12.2.new ht1).new ht2).new ht3).ne hl) upd_same), av, ?_⟩
      have hv : DO (hid p H3) 1 70 v ∧ inB 0 99 v = false := by
        simp only [List.mem_cons, List.not_mem_nil, or_false] at mv
        rcases mv with rfl | rfl | rfl | rfl | rfl | rfl | rfl | rfl | rfl | rfl
        · exact ⟨(DO.small (by decide)).mono (by decide) (by decide), rfl⟩
        · exact ⟨(DO.small (by decide)).mono (by decide) (by decide), rfl⟩
        · exact ⟨(DO.bl true).mono (by decide) (by decide), rfl⟩
        · exact ⟨DO.non.mono (by decide) (by decide), rfl⟩
        · exact ⟨(str_do _ (by decide +kernel)).mono (by decide) (by decide), rfl⟩
        · exact ⟨(DO.big (.inl rfl)).mono (by decide) (by decide), rfl⟩
        · exact ⟨(DO.tup (k := 0) (n := 30) (m := 1) (vs := [V.int 1]) (by rw [hid_ne n1]; exact k1) (fun x hx => by rw [List.mem_singleton.mp hx]; exact DO.small (by decide)) (Nat.le_refl 1)).mono (by decide) (by decide), rfl⟩
        · exact ⟨(DO.big (.inr rfl)).mono (by decide) (by decide), rfl⟩
        · exact ⟨(DO.lst (k := 0) (n := 30) (m := 1) (vs := [V.int 1]) (by rw [hid_ne n2]; exact k2) (fun x hx => by rw [List.mem_singleton.mp hx]; exact DO.small (by decide)) (Nat.le_refl 1)).mono (by decide) (by decide), rfl⟩
        · exact ⟨(DO.dct (by rw [hid_ne n3]; exact k3)).mono (by decide) (by decide), rfl⟩
      obtain ⟨hv, bv⟩ := hv
      clear k1 k2 k3 s1 s2 s3 s4 av mv n1 n2 n3
      refine ⟨_, rfl, _, rfl, _, rfl, lr, _, rfl, SqL.of hr3, fun l1 hl1 => ⟨_, rfl, by show 1 ≤ _; omega, fun l2 hl2 => ⟨l1, l2, _, _, rfl, rfl, same_new hl2 _ _ upd_same, upd_same, ?_, fun l3 hl3 => ?_⟩⟩⟩
      · have := cutV_length (List.map V.int rooms) none (some (n : Int)); rw [lm] at this; show _ + 1 ≤ _; omega
      have c1 : cutV (List.map V.int rooms) none (some (n : Int)) = (List.map V.int rooms).take n := cut_take _ n
      rw [c1] at hl2 hl3 ⊢
      have s1 := same_new (o := HO.lst ((List.map V.int rooms).take n)) hl1
      have s2 := same_new (o := HO.lst [v]) hl2
      have s3 := same_new (o := HO.lst ((List.map V.int rooms).take n ++ [v])) hl3
      have S := (s1.trans s2).trans s3
      have G3 := ((G.new (o := HO.lst ((List.map V.int rooms).take n)) hl1).new (o := HO.lst [v]) hl2).new (o := HO.lst ((List.map V.int rooms).take n ++ [v])) hl3
      have h3 : upd (upd (upd H3 l1 (HO.lst ((List.map V.int rooms).take n))) l2 (HO.lst [v])) l3 (HO.lst ((List.map V.int rooms).take n ++ [v])) l3 = some (.lst ((List.map V.int rooms).take n ++ [v])) := upd_same
      generalize upd (upd (upd H3 l1 (HO.lst ((List.map V.int rooms).take n))) l2 (HO.lst [v])) l3 (HO.lst ((List.map V.int rooms).take n ++ [v])) = H4 at S G3 h3 ⊢
      refine ⟨_, rfl, _, rfl, _, _, rfl, rfl, _, rfl, lr, _, rfl, SqL.of (S _ _ hr3), fun l4 hl4 => ?_⟩
      have c2 : cutV (List.map V.int rooms) (some ((n : Int) + 1)) none = (List.map V.int rooms).drop (n + 1) := cut_drop _ (n + 1)
      rw [c2]
      have s4 := same_new (o := HO.lst ((List.map V.int rooms).drop (n + 1))) hl4
      refine ⟨l3, l4, _, _, rfl, rfl, s4 _ _ h3, upd_same, ?_, fun l5 hl5 => ?_⟩
      · rw [List.length_append, List.length_take, List.length_drop, lm]; show _ + 1 + _ ≤ _; omega
      have s5 := same_new (o := HO.lst ((List.map V.int rooms).take n ++ [v] ++ (List.map V.int rooms).drop (n + 1))) hl5
      have G5 := (G3.new (o := HO.lst ((List.map V.int rooms).drop (n + 1))) hl4).new (o := HO.lst ((List.map V.int rooms).take n ++ [v] ++ (List.map V.int rooms).drop (n + 1))) hl5
      have n5 : l5 ≠ p := Purse.ne (G3.2.new hl4) hl5
      have k5 : upd (upd H4 l4 (HO.lst ((List.map V.int rooms).drop (n + 1)))) l5 (HO.lst ((List.map V.int rooms).take n ++ [v] ++ (List.map V.int rooms).drop (n + 1))) l5 = some (.lst ((List.map V.int rooms).take n ++ [v] ++ (List.map V.int rooms).drop (n + 1))) := upd_same
      have ll : ((List.map V.int rooms).take n ++ [v] ++ (List.map V.int rooms).drop (n + 1)).length = rooms.length := by rw [List.length_append, List.length_append, List.length_take, List.length_drop, lm]; show _ + 1 + _ = _; omega
      have hv5 := hv.same (hid_go (p := p) (fun b u _ e => ((S.trans s4).trans s5) b u e))
      refine q _ _ G5 ((DO.lst (k := 1) (n := 70) (m := 12) (by rw [hid_ne n5]; exact k5) (fun x hx => ?_) (by omega)).mono (by decide) (by decide)) (fun p' xs' e e' => by cases e; rw [k5] at e'; cases e'; omega) ?_
      · rcases List.mem_append.mp hx with h | h
        · rcases List.mem_append.mp h with h | h
          · exact (din (List.mem_of_mem_take h)).mono (by decide) (by decide)
          · rw [List.mem_singleton.mp h]; exact hv5
        · exact (din (List.mem_of_mem_drop h)).mono (by decide) (by decide)
      · rw [roomsV_yes k5, List.all_eq_false.mpr ⟨v, List.mem_append_left _ (List.mem_append_right _ (List.mem_singleton.mpr rfl)), by rw [bv]; exact Bool.false_ne_true⟩, Bool.and_false, Bool.and_false]
theorem sc__law_bad_meeting : FnScope ["_law_purse_here", "_law_meeting", "_law_walkers", "_law_one", "_law_other", "_law_when", "_law_passed", "_law_way", "_law_by", "_law_odd"] ["_law_purse_here", "_law_meeting", "_law_walkers"] (defScope s__law_bad_meeting) := ⟨rfl, rfl, rfl, by decide +kernel, rfl, by decide +kernel, by decide +kernel⟩
theorem ok__law_bad_meeting (T : Tx K mg a t_LAST_TIME t_MOST_WALKERS t_MOST_ROOM t_MOST_MEETINGS t_MOST_MANY) (B : BmAt mg base) : FnOk P w K mg base CX0 2 a.a__law_bad_meeting a.d__law_bad_meeting ["_law_purse_here", "_law_meeting", "_law_walkers"] (spBadM3) := by
  have G__law_take := @ok__law_take P w _ _ base _ _ _ _ _ _ T B
  refine T.F__law_bad_meeting.ok sc__law_bad_meeting (fun vs H Q E h => ?_) (fun cdv A outer s H vs Q E hr h => ?_)
  · obtain ⟨_, _, _, _, rfl, _⟩ := h; rfl
  · have nd := sc__law_bad_meeting.nd
    have hu := hr.units
    obtain ⟨p, t, w0, m, rfl, pu, ht, each, q⟩ := h
    refine ⟨_, (@bl_out _ _ _ (@bl_c _ _ _ _ _ _ (ps_asg (pv 1) (pg_tup' (n := 4) rfl rfl (pgs_cons (pg_name (i := 3) nd rfl (by first | exact Or.inl rfl | exact Or.inr rfl)) (pgs_cons (pg_name (i := 4) nd rfl (by first | exact Or.inl rfl | exact Or.inr rfl)) (pgs_cons (pg_name (i := 5) nd rfl (by first | exact Or.inl rfl | exact Or.inr rfl)) (pgs_cons (pg_name (i := 6) nd rfl (by first | exact Or.inl rfl | exact Or.inr rfl)) pgs_nil)))))) (@bl_c _ _ _ _ _ _ (ps_set (i := 7) nd rfl (by first | exact Or.inl rfl | exact Or.inr rfl) (pe_call G__law_take (hr.mono (by decide)) rfl T.m__law_take T.k__law_take T.i__law_take .nil pass0 (@pa_out _ _ _ (@pa_c _ _ _ _ _ (pv 0) (@pa_c _ _ _ _ _ pe_int pa_n rfl) rfl)))) (@bl_c _ _ _ _ _ _ (ps_set (i := 8) nd rfl (by first | exact Or.inl rfl | exact Or.inr rfl) (pe_call G__law_take (hr.mono (by decide)) rfl T.m__law_take T.k__law_take T.i__law_take .nil pass0 (@pa_out _ _ _ (@pa_c _ _ _ _ _ (pv 0) (@pa_c _ _ _ _ _ pe_int pa_n rfl) rfl)))) (@bl_c _ _ _ _ _ _ (ps_set (i := 9) nd rfl (by first | exact Or.inl rfl | exact Or.inr rfl) (@pe_ix _ _ _ _ _ _ _ (ix_list' rfl) (@pe_lst _ _ _ _ (@pa_out _ _ _ (@pa_c _ _ _ _ _ pe_bl (@pa_c _ _ _ _ _ pe_non (@pa_c _ _ _ _ _ pe_str (@pa_c _ _ _ _ _ (@pe_lst _ _ _ _ (@pa_out _ _ _ (@pa_c _ _ _ _ _ pe_int pa_n rfl))) (@pa_c _ _ _ _ _ pe_dnewK (@pa_c _ _ _ _ _ (@pe_tup _ _ _ _ _ (@pa_out _ _ _ (@pa_c _ _ _ _ _ pe_int pa_n rfl))) pa_n rfl) rfl) rfl) rfl) rfl) rfl))) (pe_call G__law_take (hr.mono (by decide)) rfl T.m__law_take T.k__law_take T.i__law_take .nil pass0 (@pa_out _ _ _ (@pa_c _ _ _ _ _ (pv 0) (@pa_c _ _ _ _ _ pe_int pa_n rfl) rfl))) (fun _ _ => rfl))) (@bl_c _ _ _ _ _ _ (@ps_if _ _ _ _ _ _ _ _ (@pt_cmpR _ _ _ _ _ _ _ _ op_eq (pv 7) pe_int (nomark _)) (@bl_out _ _ _ (@bl_1 _ _ _ (@ps_ret _ _ _ _ (@pe_ix _ _ _ _ _ _ _ (ix_list' rfl) (@pe_lst _ _ _ _ (@pa_out _ _ _ (@pa_c _ _ _ _ _ (pe_callTy (call_list_of' rfl) (by rfl) T.b_list PyProof.Rows.boot_list (@pa_out _ _ _ (@pa_c _ _ _ _ _ (pv 1) pa_n rfl))) (@pa_c _ _ _ _ _ pe_non (@pa_c _ _ _ _ _ pe_int (@pa_c _ _ _ _ _ pe_str (@pa_c _ _ _ _ _ pe_dnewK pa_n rfl) rfl) rfl) rfl) rfl))) (pv 8) (fun _ _ => rfl))))) pss_nil) (@bl_c _ _ _ _ _ _ (@ps_if _ _ _ _ _ _ _ _ (@pt_cmpR _ _ _ _ _ _ _ _ op_eq (pv 7) pe_int (nomark _)) (@bl_out _ _ _ (@bl_1 _ _ _ (@ps_ret _ _ _ _ (@pe_ix _ _ _ _ _ _ _ (ix_list' rfl) (@pe_lst _ _ _ _ (@pa_out _ _ _ (@pa_c _ _ _ _ _ (@pe_slice _ _ _ _ _ _ _ _ _ _ (sl_tup' rfl) (pv 1) po_none (@po_some _ _ _ pe_int)) (@pa_c _ _ _ _ _ (@pe_op _ _ _ _ _ _ _ _ (op_catT3 rfl) (pv 1) (@pe_tup _ _ _ _ _ (@pa_out _ _ _ (@pa_c _ _ _ _ _ pe_int pa_n rfl)))) (@pa_c _ _ _ _ _ (@pe_tup _ _ _ _ _ pa_nil) (@pa_c _ _ _ _ _ (@pe_tup _ _ _ _ _ (@pa_out _ _ _ (@pa_c _ _ _ _ _ (pv 1) pa_n rfl))) (@pa_c _ _ _ _ _ (@pe_slice _ _ _ _ _ _ _ _ _ _ (sl_tup' rfl) (pv 1) (@po_some _ _ _ pe_int) po_none) pa_n rfl) rfl) rfl) rfl) rfl))) (pv 8) (fun _ _ => rfl))))) pss_nil) (@bl_c _ _ _ _ _ _ (@ps_if _ _ _ _ _ _ _ _ (@pt_cmpR _ _ _ _ _ _ _ _ op_eq (pv 7) pe_int (nomark _)) (@bl_out _ _ _ (@bl_1 _ _ _ (@ps_ret _ _ _ _ (@pe_tup _ _ _ _ _ (@pa_out _ _ _ (@pa_c _ _ _ _ _ (pv 4) (@pa_c _ _ _ _ _ (pv 4) (@pa_c _ _ _ _ _ (pv 5) (@pa_c _ _ _ _ _ (pv 6) pa_n rfl) rfl) rfl) rfl)))))) pss_nil) (@bl_c _ _ _ _ _ _ (@ps_if _ _ _ _ _ _ _ _ (@pt_cmpR _ _ _ _ _ _ _ _ op_eq (pv 7) pe_int (nomark _)) (@bl_out _ _ _ (@bl_1 _ _ _ (@ps_ret _ _ _ _ (@pe_tup _ _ _ _ _ (@pa_out _ _ _ (@pa_c _ _ _ _ _ (@pe_ix _ _ _ _ _ _ _ (ix_list' rfl) (@pe_lst _ _ _ _ (@pa_out _ _ _ (@pa_c _ _ _ _ _ (@pe_un _ _ _ _ _ _ un_neg pe_int) (@pa_c _ _ _ _ _ (pv 2) (@pa_c _ _ _ _ _ (@pe_un _ _ _ _ _ _ un_neg (@pe_op _ _ _ _ _ _ _ _ op_pow pe_int pe_int)) (@pa_c _ _ _ _ _ (pv 9) (@pa_c _ _ _ _ _ (pv 9) pa_n rfl) rfl) rfl) rfl) rfl))) (pv 8) (fun _ _ => rfl)) (@pa_c _ _ _ _ _ pe_int (@pa_c _ _ _ _ _ (pv 5) (@pa_c _ _ _ _ _ (pv 6) pa_n rfl) rfl) rfl) rfl)))))) pss_nil) (@bl_c _ _ _ _ _ _ (@ps_if _ _ _ _ _ _ _ _ (@pt_cmpR _ _ _ _ _ _ _ _ op_eq (pv 7) pe_int (nomark _)) (@bl_out _ _ _ (@bl_1 _ _ _ (@ps_ret _ _ _ _ (@pe_tup _ _ _ _ _ (@pa_out _ _ _ (@pa_c _ _ _ _ _ pe_int (@pa_c _ _ _ _ _ (@pe_ix _ _ _ _ _ _ _ (ix_list' rfl) (@pe_lst _ _ _ _ (@pa_out _ _ _ (@pa_c _ _ _ _ _ (@pe_un _ _ _ _ _ _ un_neg pe_int) (@pa_c _ _ _ _ _ (pv 2) (@pa_c _ _ _ _ _ (@pe_op _ _ _ _ _ _ _ _ op_pow pe_int pe_int) (@pa_c _ _ _ _ _ (pv 9) (@pa_c _ _ _ _ _ (pv 9) pa_n rfl) rfl) rfl) rfl) rfl))) (pv 8) (fun _ _ => rfl)) (@pa_c _ _ _ _ _ (pv 5) (@pa_c _ _ _ _ _ (pv 6) pa_n rfl) rfl) rfl) rfl)))))) pss_nil) (@bl_c _ _ _ _ _ _ (@ps_if _ _ _ _ _ _ _ _ (@pt_cmpR _ _ _ _ _ _ _ _ op_eq (pv 7) pe_int (nomark _)) (@bl_out _ _ _ (@bl_1 _ _ _ (@ps_ret _ _ _ _ (@pe_tup _ _ _ _ _ (@pa_out _ _ _ (@pa_c _ _ _ _ _ (pv 3) (@pa_c _ _ _ _ _ (pv 4) (@pa_c _ _ _ _ _ (@pe_ix _ _ _ _ _ _ _ (ix_list' rfl) (@pe_lst _ _ _ _ (@pa_out _ _ _ (@pa_c _ _ _ _ _ pe_int (@pa_c _ _ _ _ _ (@pe_op _ _ _ _ _ _ _ _ op_add (@pe_op _ _ _ _ _ _ _ _ op_pow pe_int pe_int) pe_int) (@pa_c _ _ _ _ _ (@pe_un _ _ _ _ _ _ un_neg pe_int) (@pa_c _ _ _ _ _ (pv 9) (@pa_c _ _ _ _ _ (pv 9) pa_n rfl) rfl) rfl) rfl) rfl))) (pv 8) (fun _ _ => rfl)) (@pa_c _ _ _ _ _ (pv 6) pa_n rfl) rfl) rfl) rfl)))))) pss_nil) (@bl_1 _ _ _ (@ps_ret _ _ _ _ (@pe_tup _ _ _ _ _ (@pa_out _ _ _ (@pa_c _ _ _ _ _ (pv 3) (@pa_c _ _ _ _ _ (pv 4) (@pa_c _ _ _ _ _ (pv 5) (@pa_c _ _ _ _ _ (@pe_ix _ _ _ _ _ _ _ (ix_list' rfl) (@pe_lst _ _ _ _ (@pa_out _ _ _ (@pa_c _ _ _ _ _ pe_int (@pa_c _ _ _ _ _ pe_int (@pa_c _ _ _ _ _ (@pe_un _ _ _ _ _ _ un_neg pe_int) (@pa_c _ _ _ _ _ (pv 9) (@pa_c _ _ _ _ _ (pv 9) pa_n rfl) rfl) rfl) rfl) rfl))) (pv 8) (fun _ _ => rfl)) pa_n rfl) rfl) rfl) rfl)))))))))))))))), ?_⟩
    have line := line9
    have c20 : CPow 10 20 := ⟨by decide, by decide, by decide⟩
    have c9 : CPow 10 9 := ⟨by decide, by decide, by decide⟩
    have nt : t ≠ p := pu.tup ht
    obtain ⟨a1, a2, a3, a4, a5, a6, a7, a8, a9, a10⟩ := each
    refine ⟨_, rfl, t, _, rfl, SqT.of ht, rfl, _, _, rfl, _, _, rfl, _, _, rfl, _, _, rfl, rfl, ?_⟩
    refine ⟨_, rfl, p, _, rfl, by decide, by decide, pu, fun way H1 w00 w01 g1 => ?_⟩
    refine ⟨_, rfl, p, _, rfl, by decide, by decide, g1.2, fun by0 H2 b0 b1 g2 => ?_⟩
    have g12 := g1.trans g2
    refine ⟨by show 1 ≤ _; omega, fun t1 ht1 t2 ht2 => ⟨by show 1 ≤ _; omega, fun t3 ht3 => ⟨by show 6 ≤ _; omega, fun l hl => ⟨_, rfl, p, 6, rfl, by decide, by decide, (((g12.2.new ht1).new ht2).new ht3).new hl, fun e H3 e0 e1 g3 => ?_⟩⟩⟩⟩
    have s1 := same_new (o := HO.lst [V.int 1]) ht1
    have s2 := same_new (o := HO.dK []) ht2
    have s3 := same_new (o := HO.tup [V.int 1]) ht3
    have s4 := same_new (o := HO.lst [V.bl true, V.non, V.str (Str.ofString "1"), V.ref t1, V.ref t2, V.ref t3]) hl
    have n1 : t1 ≠ p := g12.2.ne ht1
    have n2 : t2 ≠ p := (g12.2.new ht1).ne ht2
    have n3 : t3 ≠ p := ((g12.2.new ht1).new ht2).ne ht3
    have k1 := g3.1 _ _ n1 (s4 _ _ (s3 _ _ (s2 _ _ (upd_same (H := H2) (a := t1) (o := HO.lst [V.int 1])))))
    have k2 := g3.1 _ _ n2 (s4 _ _ (s3 _ _ (upd_same (a := t2) (o := HO.dK []))))
    have k3 := g3.1 _ _ n3 (s4 _ _ (upd_same (a := t3) (o := HO.tup [V.int 1])))
    have G := ((((g12.new (o := HO.lst [V.int 1]) ht1).new (o := HO.dK []) ht2).new (o := HO.tup [V.int 1]) ht3).new (o := HO.lst [V.bl true, V.non, V.str (Str.ofString "1"), V.ref t1, V.ref t2, V.ref t3]) hl).trans g3
    have ht0 := ht
    have ht3' := G.1 _ _ nt ht
    obtain ⟨od, av, mv⟩ := atI_ex (xs := [V.bl true, V.non, V.str (Str.ofString "1"), V.ref t1, V.ref t2, V.ref t3]) e0 (by exact e1)
    refine ⟨l, _, _, _, rfl, rfl, SqL.of (g3.1 _ _ ((((g12.2.new ht1).new ht2).new ht3).ne hl) upd_same), av, ?_⟩
    have hv : DO (hid p H3) 1 70 od ∧ ∀ lo hi, inB lo hi od = false := by
      simp only [List.mem_cons, List.not_mem_nil, or_false] at mv
      rcases mv with rfl | rfl | rfl | rfl | rfl | rfl
      · exact ⟨(DO.bl true).mono (by decide) (by decide), fun _ _ => rfl⟩
      · exact ⟨DO.non.mono (by decide) (by decide), fun _ _ => rfl⟩
      · exact ⟨(str_do _ (by decide +kernel)).mono (by decide) (by decide), fun _ _ => rfl⟩
      · exact ⟨(DO.lst (k := 0) (n := 30) (m := 1) (vs := [V.int 1]) (by rw [hid_ne n1]; exact k1) (fun x hx => by rw [List.mem_singleton.mp hx]; exact DO.small (by decide)) (Nat.le_refl 1)).mono (by decide) (by decide), fun _ _ => rfl⟩
      · exact ⟨(DO.dct (by rw [hid_ne n2]; exact k2)).mono (by decide) (by decide), fun _ _ => rfl⟩
      · exact ⟨(DO.tup (k := 0) (n := 30) (m := 1) (vs := [V.int 1]) (by rw [hid_ne n3]; exact k3) (fun x hx => by rw [List.mem_singleton.mp hx]; exact DO.small (by decide)) (Nat.le_refl 1)).mono (by decide) (by decide), fun _ _ => rfl⟩
    obtain ⟨hv, bv⟩ := hv
    clear k1 k2 k3 s1 s2 s3 s4 av mv n1 n2 n3 g1 g2 g12 ht g3 e0 e1
    have din : ∀ {H' : Hp} {i : Int}, i.natAbs < 10 ^ 12 → DO H' 1 70 (.int i) := fun h => (DO.small h).mono (by decide) (by decide)
    have dm : ∀ {H' : Hp} {x : V}, x ∈ [V.int m.lo, V.int m.hi, V.int m.t, V.int m.m] → DO H' 0 30 x := fun {H' x} hx => by
      simp only [List.mem_cons, List.not_mem_nil, or_false] at hx
      rcases hx with rfl | rfl | rfl | rfl <;> exact DO.small (by omega)
    have tp : ∀ {H' : Hp} {u : Addr} {x0 x1 x2 x3 : V}, Go p H H' → u ≠ p → H' u = some (.tup [x0, x1, x2, x3]) → (∀ x ∈ [x0, x1, x2, x3], DO (hid p H') 1 70 x) → (inB 0 (w0 - 1) x0 && (inB 0 (w0 - 1) x1 && (!decide (x0 = x1) && (inB 1 1000000000 x2 && inB 1 99 x3)))) = false → Q (.ref u) H' := fun {H' u x0 x1 x2 x3} g nu hu hd no =>
      q _ _ g ((DO.tup (k := 1) (n := 70) (m := 4) (vs := [x0, x1, x2, x3]) (by rw [hid_ne nu]; exact hu) hd (Nat.le_refl 4)).mono (by decide) (by decide)) (by rw [meetV_yes hu]; exact no)
    refine ⟨_, rfl, rfl, _, rfl, iteB (fun _ => ?_) fun _ => ?_⟩
    · refine ⟨_, rfl, t, _, rfl, .inr (SqT.of ht3'), fun u1 hu1 u2 hu2 => ⟨by show 5 ≤ _; omega, fun l2 hl2 => ?_⟩⟩
      have s1 := same_new (o := HO.lst [V.int m.lo, V.int m.hi, V.int m.t, V.int m.m]) hu1
      have s2 := same_new (o := HO.dK []) hu2
      have s3 := same_new (o := HO.lst [V.ref u1, V.non, V.int 5, V.str (Str.ofString "0151"), V.ref u2]) hl2
      have n1 : u1 ≠ p := G.2.ne hu1
      have n2 : u2 ≠ p := (G.2.new hu1).ne hu2
      have k1 := s3 _ _ (s2 _ _ (upd_same (H := H3) (a := u1) (o := HO.lst [V.int m.lo, V.int m.hi, V.int m.t, V.int m.m])))
      have k2 := s3 _ _ (upd_same (a := u2) (o := HO.dK []))
      have G4 := ((G.new (o := HO.lst [V.int m.lo, V.int m.hi, V.int m.t, V.int m.m]) hu1).new (o := HO.dK []) hu2).new (o := HO.lst [V.ref u1, V.non, V.int 5, V.str (Str.ofString "0151"), V.ref u2]) hl2
      obtain ⟨v, av, mv⟩ := atI_ex (xs := [V.ref u1, V.non, V.int 5, V.str (Str.ofString "0151"), V.ref u2]) b0 (by exact b1)
      refine ⟨_, rfl, l2, _, _, _, rfl, rfl, SqL.of upd_same, av, ?_⟩
      simp only [List.mem_cons, List.not_mem_nil, or_false] at mv
      rcases mv with rfl | rfl | rfl | rfl | rfl
      · exact q _ _ G4 ((DO.lst (k := 0) (n := 30) (m := 4) (vs := [V.int m.lo, V.int m.hi, V.int m.t, V.int m.m]) (by rw [hid_ne n1]; exact k1) (fun x hx => dm hx) (Nat.le_refl 4)).mono (by decide) (by decide)) (meetV_no (fun p' xs' e e' => by cases e; rw [k1] at e'; cases e'))
      · exact q _ _ G4 (DO.non.mono (by decide) (by decide)) rfl
      · exact q _ _ G4 ((DO.small (by decide)).mono (by decide) (by decide)) rfl
      · exact q _ _ G4 ((str_do _ (by decide +kernel)).mono (by decide) (by decide)) rfl
      · exact q _ _ G4 ((DO.dct (by rw [hid_ne n2]; exact k2)).mono (by decide) (by decide)) (meetV_no (fun p' xs' e e' => by cases e; rw [k2] at e'; cases e'))
    refine ⟨_, rfl, rfl, _, rfl, iteB (fun _ => ?_) fun _ => ?_⟩
    · refine ⟨_, rfl, _, rfl, t, _, rfl, SqT.of ht3', fun z => (by have := z.2; revert this; show HT.sIx 4 4 (some 3) = 4 → False; decide), fun u1 hu1 => ?_⟩
      have s1 := same_new (o := HO.tup [V.int m.lo, V.int m.hi, V.int m.t]) hu1
      refine ⟨_, rfl, by show 1 ≤ _; omega, fun u2 hu2 => ⟨t, u2, _, _, rfl, rfl, SqT.of (same_new hu2 _ _ (s1 _ _ ht3')), SqT.of upd_same, by show 4 + 1 ≤ _; omega, nofun, nofun, fun _ _ u3 hu3 => ⟨Nat.zero_le _, fun u4 hu4 => ⟨_, rfl, by show 1 ≤ _; omega, fun u5 hu5 => ?_⟩⟩⟩⟩
      have s2 := same_new (o := HO.tup [V.int 1]) hu2
      have s3 := same_new (o := HO.tup ([V.int m.lo, V.int m.hi, V.int m.t, V.int m.m] ++ [V.int 1])) hu3
      have s4 := same_new (o := HO.tup []) hu4
      have s5 := same_new (o := HO.tup [V.ref t]) hu5
      have g5 := ((((G.new (o := HO.tup [V.int m.lo, V.int m.hi, V.int m.t]) hu1).new (o := HO.tup [V.int 1]) hu2).new (o := HO.tup ([V.int m.lo, V.int m.hi, V.int m.t, V.int m.m] ++ [V.int 1])) hu3).new (o := HO.tup []) hu4).new (o := HO.tup [V.ref t]) hu5
      refine ⟨_, rfl, _, rfl, t, _, rfl, SqT.of (s5 _ _ (s4 _ _ (s3 _ _ (s2 _ _ (s1 _ _ ht3'))))), fun z => (by have := z.1; revert this; show HT.sIx 4 0 (some 1) = 0 → False; decide), fun u6 hu6 => ⟨by show 5 ≤ _; omega, fun l2 hl2 => ?_⟩⟩
      have s6 := same_new (o := HO.tup [V.int m.hi, V.int m.t, V.int m.m]) hu6
      have s7 := same_new (o := HO.lst [V.ref u1, V.ref u3, V.ref u4, V.ref u5, V.ref u6]) hl2
      have G7 := (g5.new (o := HO.tup [V.int m.hi, V.int m.t, V.int m.m]) hu6).new (o := HO.lst [V.ref u1, V.ref u3, V.ref u4, V.ref u5, V.ref u6]) hl2
      have S67 := s6.trans s7
      have k1 := S67 _ _ (s5 _ _ (s4 _ _ (s3 _ _ (s2 _ _ (upd_same (H := H3) (a := u1) (o := HO.tup [V.int m.lo, V.int m.hi, V.int m.t]))))))
      have k3 := S67 _ _ (s5 _ _ (s4 _ _ (upd_same (H := upd (upd H3 u1 (HO.tup [V.int m.lo, V.int m.hi, V.int m.t])) u2 (HO.tup [V.int 1])) (a := u3) (o := HO.tup ([V.int m.lo, V.int m.hi, V.int m.t, V.int m.m] ++ [V.int 1])))))
      have k4 := S67 _ _ (s5 _ _ (upd_same (a := u4) (o := HO.tup [])))
      have k5 := S67 _ _ (upd_same (a := u5) (o := HO.tup [V.ref t]))
      have k6 := s7 _ _ (upd_same (a := u6) (o := HO.tup [V.int m.hi, V.int m.t, V.int m.m]))
      have kt := G7.1 _ _ nt ht0
      have np : ∀ {c : Addr} {xs : List V}, _ = some (HO.tup xs) → c ≠ p := fun {c xs} e => G7.2.tup (t := c) (xs := xs) e
      obtain ⟨v, av, mv⟩ := atI_ex (xs := [V.ref u1, V.ref u3, V.ref u4, V.ref u5, V.ref u6]) b0 (by exact b1)
      refine ⟨_, rfl, l2, _, _, _, rfl, rfl, SqL.of upd_same, av, ?_⟩
      have tq : ∀ {u : Addr} {xs : List V}, _ = some (HO.tup xs) → (∀ x ∈ xs, DO (hid p _) 1 131 x) → xs.length ≤ 5 → xs.length ≠ 4 → Q (.ref u) _ := fun {u xs} e hd l5 l4 =>
        q _ _ G7 ((DO.tup (k := 1) (n := 131) (m := 5) (vs := xs) (by rw [hid_ne (np e)]; exact e) hd l5).mono (by decide) (by decide)) (meetV_no fun p' xs' z z' => by cases z; rw [e] at z'; cases z'; exact l4)
      have dd : ∀ {H' : Hp} {x : V}, x ∈ [V.int m.lo, V.int m.hi, V.int m.t, V.int m.m] ++ [V.int 1] → DO H' 1 131 x := fun {H' x} hx => by
        rcases List.mem_append.mp hx with h | h
        · exact (dm h).mono (by decide) (by decide)
        · rw [List.mem_singleton.mp h]; exact (DO.small (by decide)).mono (by decide) (by decide)
      simp only [List.mem_cons, List.not_mem_nil, or_false] at mv
      rcases mv with rfl | rfl | rfl | rfl | rfl
      · exact tq k1 (fun x hx => by simp only [List.mem_cons, List.not_mem_nil, or_false] at hx; rcases hx with rfl | rfl | rfl <;> exact dd (by simp)) (by show 3 ≤ 5; decide) (by show 3 ≠ 4; decide)
      · exact tq k3 (fun x hx => dd hx) (by show 5 ≤ 5; decide) (by show 5 ≠ 4; decide)
      · exact tq k4 nofun (Nat.zero_le _) (by show 0 ≠ 4; decide)
      · refine tq k5 (fun x hx => ?_) (by show 1 ≤ 5; decide) (by show 1 ≠ 4; decide)
        rw [List.mem_singleton.mp hx]
        exact (DO.tup (k := 0) (n := 30) (m := 4) (vs := [V.int m.lo, V.int m.hi, V.int m.t, V.int m.m]) (by rw [hid_ne nt]; exact kt) (fun x hx => dm hx) (Nat.le_refl 4)).mono (by decide) (by decide)
      · exact tq k6 (fun x hx => by simp only [List.mem_cons, List.not_mem_nil, or_false] at hx; rcases hx with rfl | rfl | rfl <;> exact dd (by simp)) (by show 3 ≤ 5; decide) (by show 3 ≠ 4; decide)
    refine ⟨_, rfl, rfl, _, rfl, iteB (fun _ => ?_) fun _ => ?_⟩
    · refine ⟨_, rfl, _, rfl, _, rfl, _, rfl, by show 4 ≤ _; omega, fun u1 hu1 => tp (G.new hu1) (G.2.ne hu1) upd_same (fun x hx => ?_) (by simp)⟩
      simp only [List.mem_cons, List.not_mem_nil, or_false] at hx
      rcases hx with rfl | rfl | rfl | rfl <;> exact din (by omega)
    refine ⟨_, rfl, rfl, _, rfl, iteB (fun _ => ?_) fun _ => ?_⟩
    · refine ⟨_, rfl, _, rfl, _, _, rfl, rfl, c20, _, rfl, _, rfl, _, rfl, by show 5 ≤ _; omega, fun l2 hl2 => ?_⟩
      have g4 := G.new (o := HO.lst [V.int (-1), V.int w0, V.int (-10 ^ Int.toNat 20), od, od]) hl2
      obtain ⟨v, av, mv⟩ := atI_ex (xs := [V.int (-1), V.int w0, V.int (-10 ^ Int.toNat 20), od, od]) b0 (by exact b1)
      refine ⟨_, rfl, l2, _, _, _, rfl, rfl, SqL.of upd_same, av, _, rfl, _, rfl, by show 4 ≤ _; omega, fun u1 hu1 => ?_⟩
      have hv4 := hv.same (hid_go (p := p) (But.new (p := p) (o := HO.lst [V.int (-1), V.int w0, V.int (-10 ^ Int.toNat 20), od, od]) hl2))
      have vv : DO (hid p (upd H3 l2 (HO.lst [V.int (-1), V.int w0, V.int (-10 ^ Int.toNat 20), od, od]))) 1 70 v ∧ inB 0 (w0 - 1) v = false := by
        simp only [List.mem_cons, List.not_mem_nil, or_false] at mv
        rcases mv with rfl | rfl | rfl | rfl | rfl
        · exact ⟨din (by decide), rfl⟩
        · exact ⟨din (by omega), by simp [inB]; omega⟩
        · exact ⟨(DO.big (.inr rfl)).mono (by decide) (by decide), rfl⟩
        · exact ⟨hv4, bv _ _⟩
        · exact ⟨hv4, bv _ _⟩
      have hx : ∀ x ∈ [v, V.int 0, V.int m.t, V.int m.m], DO (hid p (upd (upd H3 l2 (HO.lst [V.int (-1), V.int w0, V.int (-10 ^ Int.toNat 20), od, od])) u1 (HO.tup [v, V.int 0, V.int m.t, V.int m.m]))) 1 70 x := fun x hx => by
        simp only [List.mem_cons, List.not_mem_nil, or_false] at hx
        rcases hx with rfl | rfl | rfl | rfl <;> first | exact vv.1.same (hid_go (p := p) (But.new (p := p) hu1)) | exact din (by omega)
      exact tp (g4.new hu1) (g4.2.ne hu1) upd_same hx (by rw [vv.2]; simp)
    refine ⟨_, rfl, rfl, _, rfl, iteB (fun _ => ?_) fun _ => ?_⟩
    · refine ⟨_, rfl, _, rfl, _, _, rfl, rfl, c20, _, rfl, _, rfl, by show 5 ≤ _; omega, fun l2 hl2 => ?_⟩
      have g4 := G.new (o := HO.lst [V.int (-1), V.int w0, V.int (10 ^ Int.toNat 20), od, od]) hl2
      obtain ⟨v, av, mv⟩ := atI_ex (xs := [V.int (-1), V.int w0, V.int (10 ^ Int.toNat 20), od, od]) b0 (by exact b1)
      refine ⟨_, rfl, l2, _, _, _, rfl, rfl, SqL.of upd_same, av, _, rfl, _, rfl, by show 4 ≤ _; omega, fun u1 hu1 => ?_⟩
      have hv4 := hv.same (hid_go (p := p) (But.new (p := p) (o := HO.lst [V.int (-1), V.int w0, V.int (10 ^ Int.toNat 20), od, od]) hl2))
      have vv : DO (hid p (upd H3 l2 (HO.lst [V.int (-1), V.int w0, V.int (10 ^ Int.toNat 20), od, od]))) 1 70 v ∧ inB 0 (w0 - 1) v = false := by
        simp only [List.mem_cons, List.not_mem_nil, or_false] at mv
        rcases mv with rfl | rfl | rfl | rfl | rfl
        · exact ⟨din (by decide), rfl⟩
        · exact ⟨din (by omega), by simp [inB]; omega⟩
        · exact ⟨(DO.big (.inl rfl)).mono (by decide) (by decide), big_no a10⟩
        · exact ⟨hv4, bv _ _⟩
        · exact ⟨hv4, bv _ _⟩
      have hx : ∀ x ∈ [V.int 0, v, V.int m.t, V.int m.m], DO (hid p (upd (upd H3 l2 (HO.lst [V.int (-1), V.int w0, V.int (10 ^ Int.toNat 20), od, od])) u1 (HO.tup [V.int 0, v, V.int m.t, V.int m.m]))) 1 70 x := fun x hx => by
        simp only [List.mem_cons, List.not_mem_nil, or_false] at hx
        rcases hx with rfl | rfl | rfl | rfl <;> first | exact vv.1.same (hid_go (p := p) (But.new (p := p) hu1)) | exact din (by omega)
      exact tp (g4.new hu1) (g4.2.ne hu1) upd_same hx (by rw [vv.2]; simp)
    refine ⟨_, rfl, rfl, _, rfl, iteB (fun _ => ?_) fun _ => ?_⟩
    · refine ⟨_, rfl, _, rfl, _, _, rfl, rfl, c9, _, _, rfl, rfl, _, rfl, _, rfl, _, rfl, by show 5 ≤ _; omega, fun l2 hl2 => ?_⟩
      have g4 := G.new (o := HO.lst [V.int 0, V.int (10 ^ Int.toNat 9 + 1), V.int (-1), od, od]) hl2
      obtain ⟨v, av, mv⟩ := atI_ex (xs := [V.int 0, V.int (10 ^ Int.toNat 9 + 1), V.int (-1), od, od]) b0 (by exact b1)
      refine ⟨_, rfl, l2, _, _, _, rfl, rfl, SqL.of upd_same, av, _, rfl, by show 4 ≤ _; omega, fun u1 hu1 => ?_⟩
      have hv4 := hv.same (hid_go (p := p) (But.new (p := p) (o := HO.lst [V.int 0, V.int (10 ^ Int.toNat 9 + 1), V.int (-1), od, od]) hl2))
      have vv : DO (hid p (upd H3 l2 (HO.lst [V.int 0, V.int (10 ^ Int.toNat 9 + 1), V.int (-1), od, od]))) 1 70 v ∧ inB 1 1000000000 v = false := by
        simp only [List.mem_cons, List.not_mem_nil, or_false] at mv
        rcases mv with rfl | rfl | rfl | rfl | rfl
        · exact ⟨din (by decide), rfl⟩
        · exact ⟨din (by decide), by decide⟩
        · exact ⟨din (by decide), rfl⟩
        · exact ⟨hv4, bv _ _⟩
        · exact ⟨hv4, bv _ _⟩
      have hx : ∀ x ∈ [V.int m.lo, V.int m.hi, v, V.int m.m], DO (hid p (upd (upd H3 l2 (HO.lst [V.int 0, V.int (10 ^ Int.toNat 9 + 1), V.int (-1), od, od])) u1 (HO.tup [V.int m.lo, V.int m.hi, v, V.int m.m]))) 1 70 x := fun x hx => by
        simp only [List.mem_cons, List.not_mem_nil, or_false] at hx
        rcases hx with rfl | rfl | rfl | rfl <;> first | exact vv.1.same (hid_go (p := p) (But.new (p := p) hu1)) | exact din (by omega)
      exact tp (g4.new hu1) (g4.2.ne hu1) upd_same hx (by rw [vv.2]; simp)
    · refine ⟨_, rfl, _, rfl, _, rfl, _, rfl, _, rfl, _, rfl, by show 5 ≤ _; omega, fun l2 hl2 => ?_⟩
      have g4 := G.new (o := HO.lst [V.int 0, V.int 100, V.int (-1), od, od]) hl2
      obtain ⟨v, av, mv⟩ := atI_ex (xs := [V.int 0, V.int 100, V.int (-1), od, od]) b0 (by exact b1)
      refine ⟨_, rfl, l2, _, _, _, rfl, rfl, SqL.of upd_same, av, by show 4 ≤ _; omega, fun u1 hu1 => ?_⟩
      have hv4 := hv.same (hid_go (p := p) (But.new (p := p) (o := HO.lst [V.int 0, V.int 100, V.int (-1), od, od]) hl2))
      have vv : DO (hid p (upd H3 l2 (HO.lst [V.int 0, V.int 100, V.int (-1), od, od]))) 1 70 v ∧ inB 1 99 v = false := by
        simp only [List.mem_cons, List.not_mem_nil, or_false] at mv
        rcases mv with rfl | rfl | rfl | rfl | rfl
        · exact ⟨din (by decide), rfl⟩
        · exact ⟨din (by decide), rfl⟩
        · exact ⟨din (by decide), rfl⟩
        · exact ⟨hv4, bv _ _⟩
        · exact ⟨hv4, bv _ _⟩
      have hx : ∀ x ∈ [V.int m.lo, V.int m.hi, V.int m.t, v], DO (hid p (upd (upd H3 l2 (HO.lst [V.int 0, V.int 100, V.int (-1), od, od])) u1 (HO.tup [V.int m.lo, V.int m.hi, V.int m.t, v]))) 1 70 x := fun x hx => by
        simp only [List.mem_cons, List.not_mem_nil, or_false] at hx
        rcases hx with rfl | rfl | rfl | rfl <;> first | exact vv.1.same (hid_go (p := p) (But.new (p := p) hu1)) | exact din (by omega)
      exact tp (g4.new hu1) (g4.2.ne hu1) upd_same hx (by rw [vv.2]; simp)
theorem sc__law_bad_rows : FnScope ["_law_purse_here", "_law_rows", "_law_walkers", "_law_at", "_law_way", "_law_one", "_law_other", "_law_when", "_law_passed", "_law_twice", "_law_third", "_law_more", "_law_to", "_law_some", "_law_bad"] ["_law_purse_here", "_law_rows", "_law_walkers"] (defScope s__law_bad_rows) := ⟨rfl, rfl, rfl, by decide +kernel, rfl, by decide +kernel, by decide +kernel⟩
theorem ok__law_bad_rows (T : Tx K mg a t_LAST_TIME t_MOST_WALKERS t_MOST_ROOM t_MOST_MEETINGS t_MOST_MANY) (B : BmAt mg base) : FnOk P w K mg base CX0 3 a.a__law_bad_rows a.d__law_bad_rows ["_law_purse_here", "_law_rows", "_law_walkers"] (spBadRows3) := by
  have G__law_take := @ok__law_take P w _ _ base _ _ _ _ _ _ T B
  have G__law_bad_meeting := @ok__law_bad_meeting P w _ _ base _ _ _ _ _ _ T B
  refine T.F__law_bad_rows.ok sc__law_bad_rows (fun vs H Q E h => ?_) (fun cdv A outer s H vs Q E hr h => ?_)
  · obtain ⟨_, _, _, _, rfl, _⟩ := h; rfl
  · have nd := sc__law_bad_rows.nd
    have hu := hr.units
    obtain ⟨p, lm, w0, fs, rfl, pu, np, hL, f1, f58, raw, w2, w12, q⟩ := h
    refine ⟨_, (@bl_out _ _ _ (@bl_c _ _ _ _ _ _ (ps_set (i := 3) nd rfl (by first | exact Or.inl rfl | exact Or.inr rfl) (pe_call G__law_take (hr.mono (by decide)) rfl T.m__law_take T.k__law_take T.i__law_take .nil pass0 (@pa_out _ _ _ (@pa_c _ _ _ _ _ (pv 0) (@pa_c _ _ _ _ _ (pe_callB (call_len_seq' rfl) (by rfl) T.b_len PySem.boot_len (@pa_out _ _ _ (@pa_c _ _ _ _ _ (pv 1) pa_n rfl))) pa_n rfl) rfl)))) (@bl_c _ _ _ _ _ _ (ps_set (i := 4) nd rfl (by first | exact Or.inl rfl | exact Or.inr rfl) (pe_call G__law_take (hr.mono (by decide)) rfl T.m__law_take T.k__law_take T.i__law_take .nil pass0 (@pa_out _ _ _ (@pa_c _ _ _ _ _ (pv 0) (@pa_c _ _ _ _ _ pe_int pa_n rfl) rfl)))) (@bl_c _ _ _ _ _ _ (ps_asg (@pe_ix _ _ _ _ _ _ _ (ix_list' rfl) (pv 1) (pv 3) (fun _ _ => rfl)) (pg_tup' (n := 4) rfl rfl (pgs_cons (pg_name (i := 5) nd rfl (by first | exact Or.inl rfl | exact Or.inr rfl)) (pgs_cons (pg_name (i := 6) nd rfl (by first | exact Or.inl rfl | exact Or.inr rfl)) (pgs_cons (pg_name (i := 7) nd rfl (by first | exact Or.inl rfl | exact Or.inr rfl)) (pgs_cons (pg_name (i := 8) nd rfl (by first | exact Or.inl rfl | exact Or.inr rfl)) pgs_nil)))))) (@bl_c _ _ _ _ _ _ (@ps_if _ _ _ _ _ _ _ _ (@pt_cmpR _ _ _ _ _ _ _ _ op_eq (pv 4) pe_int (nomark _)) (@bl_out _ _ _ (@bl_1 _ _ _ (@ps_ret _ _ _ _ (@pe_ix _ _ _ _ _ _ _ (ix_list' rfl) (@pe_lst _ _ _ _ (@pa_out _ _ _ (@pa_c _ _ _ _ _ (pe_callTy (call_tuple_of) (by rfl) T.b_tuple PyProof.Rows.boot_tuple (@pa_out _ _ _ (@pa_c _ _ _ _ _ (pv 1) pa_n rfl))) (@pa_c _ _ _ _ _ pe_non (@pa_c _ _ _ _ _ pe_dnewK (@pa_c _ _ _ _ _ (pe_comp (own := ["_law_k"]) (caps := []) rfl (show CompScope ["_law_k"] [] ["_law_purse_here", "_law_rows", "_law_walkers", "_law_at", "_law_way", "_law_one", "_law_other", "_law_when", "_law_passed", "_law_twice", "_law_third", "_law_more", "_law_to", "_law_some", "_law_bad"] (defScope s__law_bad_rows) _ from ⟨rfl, by decide +kernel, by decide +kernel, by decide +kernel, by decide +kernel⟩) (pi_range1 rfl T.b_range (@pa_out _ _ _ (@pa_c _ _ _ _ _ pe_int pa_n rfl))) (fun _ _ _ _ => (pg_name (i := 0) (show List.Nodup (["_law_k"] : List Str) from by decide +kernel) rfl (by first | exact Or.inl rfl | exact Or.inr rfl))) (fun _ _ _ _ => pts_nil) (fun _ _ _ _ => (@pe_tup _ _ _ _ _ (@pa_out _ _ _ (@pa_c _ _ _ _ _ pe_int (@pa_c _ _ _ _ _ pe_int (@pa_c _ _ _ _ _ (@pe_op _ _ _ _ _ _ _ _ op_add (pv 0) pe_int) (@pa_c _ _ _ _ _ pe_int pa_n rfl) rfl) rfl) rfl))))) pa_n rfl) rfl) rfl) rfl))) (@pe_op _ _ _ _ _ _ _ _ op_mod (pv 3) pe_int) (fun _ _ => rfl))))) pss_nil) (@bl_c _ _ _ _ _ _ (@ps_if _ _ _ _ _ _ _ _ (@pt_cmpR _ _ _ _ _ _ _ _ op_eq (pv 4) pe_int (nomark _)) (@bl_out _ _ _ (@bl_c _ _ _ _ _ _ (ps_set (i := 9) nd rfl (by first | exact Or.inl rfl | exact Or.inr rfl) (@pe_ix _ _ _ _ _ _ _ (ix_list' rfl) (@pe_lst _ _ _ _ (@pa_out _ _ _ (@pa_c _ _ _ _ _ (pv 5) (@pa_c _ _ _ _ _ (pv 6) pa_n rfl) rfl))) (pe_call G__law_take (hr.mono (by decide)) rfl T.m__law_take T.k__law_take T.i__law_take .nil pass0 (@pa_out _ _ _ (@pa_c _ _ _ _ _ (pv 0) (@pa_c _ _ _ _ _ pe_int pa_n rfl) rfl))) (fun _ _ => rfl))) (@bl_c _ _ _ _ _ _ (ps_set (i := 10) nd rfl (by first | exact Or.inl rfl | exact Or.inr rfl) (pe_call G__law_take (hr.mono (by decide)) rfl T.m__law_take T.k__law_take T.i__law_take .nil pass0 (@pa_out _ _ _ (@pa_c _ _ _ _ _ (pv 0) (@pa_c _ _ _ _ _ (pv 2) pa_n rfl) rfl)))) (@bl_c _ _ _ _ _ _ (@ps_if _ _ _ _ _ _ _ _ (@pt_cmpR _ _ _ _ _ _ _ _ op_eq (pv 10) (pv 9) (nomark _)) (@bl_out _ _ _ (@bl_1 _ _ _ (ps_set (i := 10) nd rfl (by first | exact Or.inl rfl | exact Or.inr rfl) (@pe_ix _ _ _ _ _ _ _ (ix_list' rfl) (@pe_lst _ _ _ _ (@pa_out _ _ _ (@pa_c _ _ _ _ _ (pv 5) (@pa_c _ _ _ _ _ (pv 6) pa_n rfl) rfl))) (pe_callTy (call_int1) (by rfl) T.b_int PyProof.Rows.boot_int (@pa_out _ _ _ (@pa_c _ _ _ _ _ (@pe_cmpR _ _ _ _ _ _ _ _ op_eq (pv 9) (pv 5) (nomark _)) pa_n rfl))) (fun _ _ => rfl))))) pss_nil) (@bl_c _ _ _ _ _ _ (ps_set (i := 11) nd rfl (by first | exact Or.inl rfl | exact Or.inr rfl) (@pe_ix _ _ _ _ _ _ _ (ix_list' rfl) (@pe_lst _ _ _ _ (@pa_out _ _ _ (@pa_c _ _ _ _ _ (@pe_tup _ _ _ _ _ (@pa_out _ _ _ (@pa_c _ _ _ _ _ (pv 10) (@pa_c _ _ _ _ _ (pv 9) pa_n rfl) rfl))) (@pa_c _ _ _ _ _ (@pe_tup _ _ _ _ _ (@pa_out _ _ _ (@pa_c _ _ _ _ _ (pv 9) (@pa_c _ _ _ _ _ (pv 10) pa_n rfl) rfl))) pa_n rfl) rfl))) (pe_call G__law_take (hr.mono (by decide)) rfl T.m__law_take T.k__law_take T.i__law_take .nil pass0 (@pa_out _ _ _ (@pa_c _ _ _ _ _ (pv 0) (@pa_c _ _ _ _ _ pe_int pa_n rfl) rfl))) (fun _ _ => rfl))) (@bl_c _ _ _ _ _ _ (ps_set (i := 12) nd rfl (by first | exact Or.inl rfl | exact Or.inr rfl) (pe_call G__law_take (hr.mono (by decide)) rfl T.m__law_take T.k__law_take T.i__law_take .nil pass0 (@pa_out _ _ _ (@pa_c _ _ _ _ _ (pv 0) (@pa_c _ _ _ _ _ (@pe_op _ _ _ _ _ _ _ _ op_add (pe_callB (call_len_seq' rfl) (by rfl) T.b_len PySem.boot_len (@pa_out _ _ _ (@pa_c _ _ _ _ _ (pv 1) pa_n rfl))) pe_int) pa_n rfl) rfl)))) (@bl_1 _ _ _ (@ps_ret _ _ _ _ (@pe_op _ _ _ _ _ _ _ _ op_cat (@pe_op _ _ _ _ _ _ _ _ op_cat (@pe_slice _ _ _ _ _ _ _ _ _ _ (sl_list' rfl) (pv 1) po_none (@po_some _ _ _ (pv 12))) (@pe_lst _ _ _ _ (@pa_out _ _ _ (@pa_c _ _ _ _ _ (@pe_op _ _ _ _ _ _ _ _ (op_catT3 rfl) (pv 11) (@pe_tup _ _ _ _ _ (@pa_out _ _ _ (@pa_c _ _ _ _ _ (pv 7) (@pa_c _ _ _ _ _ pe_int pa_n rfl) rfl)))) pa_n rfl)))) (@pe_slice _ _ _ _ _ _ _ _ _ _ (sl_list' rfl) (pv 1) (@po_some _ _ _ (pv 12)) po_none)))))))))) pss_nil) (@bl_c _ _ _ _ _ _ (@ps_if _ _ _ _ _ _ _ _ (@PW.pt _ _ _ (@pw_and _ _ _ _ _ _ _ (@pt_cmpR _ _ _ _ _ _ _ _ op_eq (pv 4) pe_int (nomark _)) (@pw_and1 _ _ _ _ (@pt_cmpR _ _ _ _ _ _ _ _ op_gt (pv 2) pe_int (nomark _))))) (@bl_out _ _ _ (@bl_c _ _ _ _ _ _ (ps_set (i := 13) nd rfl (by first | exact Or.inl rfl | exact Or.inr rfl) (@pe_lst _ _ _ _ (@pa_out _ _ _ (@pa_c _ _ _ _ _ (@pe_tup _ _ _ _ _ (@pa_out _ _ _ (@pa_c _ _ _ _ _ pe_int (@pa_c _ _ _ _ _ pe_int (@pa_c _ _ _ _ _ (pv 7) (@pa_c _ _ _ _ _ pe_int pa_n rfl) rfl) rfl) rfl))) (@pa_c _ _ _ _ _ (@pe_tup _ _ _ _ _ (@pa_out _ _ _ (@pa_c _ _ _ _ _ pe_int (@pa_c _ _ _ _ _ pe_int (@pa_c _ _ _ _ _ (pv 7) (@pa_c _ _ _ _ _ pe_int pa_n rfl) rfl) rfl) rfl))) (@pa_c _ _ _ _ _ (@pe_tup _ _ _ _ _ (@pa_out _ _ _ (@pa_c _ _ _ _ _ pe_int (@pa_c _ _ _ _ _ pe_int (@pa_c _ _ _ _ _ (pv 7) (@pa_c _ _ _ _ _ pe_int pa_n rfl) rfl) rfl) rfl))) pa_n rfl) rfl) rfl)))) (@bl_1 _ _ _ (@ps_ret _ _ _ _ (@pe_op _ _ _ _ _ _ _ _ op_cat (@pe_slice _ _ _ _ _ _ _ _ _ _ (sl_list' rfl) (pv 13) (@po_some _ _ _ (@pe_op _ _ _ _ _ _ _ _ op_mod (pv 3) pe_int)) po_none) (@pe_slice _ _ _ _ _ _ _ _ _ _ (sl_list' rfl) (pv 13) po_none (@po_some _ _ _ (@pe_op _ _ _ _ _ _ _ _ op_mod (pv 3) pe_int)))))))) pss_nil) (@bl_c _ _ _ _ _ _ (ps_set (i := 14) nd rfl (by first | exact Or.inl rfl | exact Or.inr rfl) (pe_call G__law_bad_meeting (hr.mono (by decide)) rfl T.m__law_bad_meeting T.k__law_bad_meeting T.i__law_bad_meeting .nil pass0 (@pa_out _ _ _ (@pa_c _ _ _ _ _ (pv 0) (@pa_c _ _ _ _ _ (@pe_ix _ _ _ _ _ _ _ (ix_list' rfl) (pv 1) (pv 3) (fun _ _ => rfl)) (@pa_c _ _ _ _ _ (pv 2) pa_n rfl) rfl) rfl)))) (@bl_1 _ _ _ (@ps_ret _ _ _ _ (@pe_op _ _ _ _ _ _ _ _ op_cat (@pe_op _ _ _ _ _ _ _ _ op_cat (@pe_slice _ _ _ _ _ _ _ _ _ _ (sl_list' rfl) (pv 1) po_none (@po_some _ _ _ (pv 3))) (@pe_lst _ _ _ _ (@pa_out _ _ _ (@pa_c _ _ _ _ _ (pv 14) pa_n rfl)))) (@pe_slice _ _ _ _ _ _ _ _ _ _ (sl_list' rfl) (pv 1) (@po_some _ _ _ (@pe_op _ _ _ _ _ _ _ _ op_add (pv 3) pe_int)) po_none)))))))))))), ?_⟩
    have line := line9
    have lf : (fs.map fun a => V.ref a.1).length = fs.length := List.length_map ..
    refine ⟨_, rfl, _, rfl, lm, _, rfl, .inl (SqL.of hL.1), p, _, rfl, by omega, by rw [lf]; omega, pu, fun at0 H1 a0 a1 g1 => ?_⟩
    obtain ⟨n, rfl⟩ := Int.eq_ofNat_of_zero_le a0
    have hn : n < fs.length := by rw [lf] at a1; omega
    refine ⟨_, rfl, p, _, rfl, by decide, by decide, g1.2, fun way H2 w00 w01 g2 => ?_⟩
    have g12 := g1.trans g2
    have keepL : ∀ {H' : Hp}, Go p H H' → ListAt H' lm fs := fun g => ⟨g.1 _ _ np hL.1, fun r hr => g.1 _ _ (pu.tup (hL.2 r hr)) (hL.2 r hr)⟩
    have hL2 := keepL g12
    obtain ⟨r, hr⟩ : ∃ r, fs[n]? = some r := ⟨_, List.getElem?_eq_getElem hn⟩
    have rm := List.mem_of_getElem? hr
    obtain ⟨e1, e2, e3, e4, e5, e6, e7, e8, e9⟩ := raw r.2 (List.mem_map.mpr ⟨r, rm, rfl⟩)
    have hat : (fs.map fun a => V.ref a.1)[n]? = some (V.ref r.1) := by rw [List.getElem?_map, hr]; rfl
    have hrow : H2 r.1 = some (.tup [.int r.2.lo, .int r.2.hi, .int r.2.t, .int r.2.m]) := hL2.2 r rm
    refine ⟨_, rfl, _, rfl, lm, _, _, _, rfl, rfl, SqL.of hL2.1, atI_nat hat, r.1, _, rfl, SqT.of hrow, rfl, _, _, rfl, _, _, rfl, _, _, rfl, _, _, rfl, rfl, ?_⟩
    clear g1 g2
    refine ⟨_, rfl, rfl, _, rfl, iteB (fun _ => ?_) fun _ => ?_⟩
    · refine ⟨_, rfl, lm, _, rfl, .inl ⟨SqL.of hL2.1, fun t1 ht1 t2 ht2 => ?_⟩⟩
      have s1 := same_new (o := HO.tup (fs.map fun a => V.ref a.1)) ht1
      have s2 := same_new (o := HO.dK []) ht2
      have gA := (g12.new (o := HO.tup (fs.map fun a => V.ref a.1)) ht1).new (o := HO.dK []) ht2
      have n1 : t1 ≠ p := g12.2.ne ht1
      have n2 : t2 ≠ p := (g12.2.new ht1).ne ht2
      have k1 := s2 _ _ (upd_same (H := H2) (a := t1) (o := HO.tup (fs.map fun a => V.ref a.1)))
      have k2 : upd (upd H2 t1 (HO.tup (fs.map fun a => V.ref a.1))) t2 (HO.dK []) t2 = some (.dK []) := upd_same
      generalize upd (upd H2 t1 (HO.tup (fs.map fun a => V.ref a.1))) t2 (HO.dK []) = H3 at gA k1 k2 ⊢
      refine ⟨61, rfl, by decide, by decide, ?_⟩
      refine comp_range (lo := 0) (m := 61) (fun i τ acc H5 => ∃ ts : List (Addr × M4), (∃ t0, τ = [t0]) ∧ acc = (ts.map fun a => V.ref a.1) ∧ ts.length = i ∧ Same H3 H5 ∧ RowsAt H5 ts ∧ RawE w0 (ts.map (·.2))) ⟨[], ⟨_, rfl⟩, rfl, rfl, Same.refl _, nofun, nofun⟩ (by omega) ?_ ?_ ?_
      · rintro i τ acc H5 ⟨ts, _, rfl, e, _⟩
        rw [List.length_map]; omega
      · rintro i τ acc H5 C hi ⟨ts, ⟨t0, rfl⟩, rfl, et, sm, rw5, raw5⟩ hC
        refine ⟨_, rfl, _, _, rfl, rfl, by show 4 ≤ _; omega, fun u hu => hC _ _ _ ⟨ts ++ [(u, ⟨0, 1, 0 + (i : Int) + 1, 1⟩)], ⟨_, rfl⟩, by rw [List.map_append]; rfl, by rw [List.length_append, et]; rfl, sm.trans (same_new hu), fun x hx => ?_, fun x hx => ?_⟩⟩
        · rcases List.mem_append.mp hx with h | h
          · exact same_new hu _ _ (rw5 x h)
          · rw [List.mem_singleton.mp h]; exact upd_same
        · rw [List.map_append] at hx
          rcases List.mem_append.mp hx with h | h
          · exact raw5 x h
          · rw [List.mem_singleton.mp h]
            exact ⟨by show (0 : Int) ≤ 0; omega, by show (0 : Int) < w0; omega, by show (0 : Int) ≤ 1; omega, by show (1 : Int) < w0; omega, by show (0 : Int) ≠ 1; omega, by show (1 : Int) ≤ 0 + i + 1; omega, by show 0 + (i : Int) + 1 ≤ 1000000000; omega, by show (1 : Int) ≤ 1; omega, by show (1 : Int) ≤ 99; omega⟩
      rintro τ acc H5 ⟨ts, ⟨t0, rfl⟩, rfl, et, sm, rw5, raw5⟩ l3 hl3
      have g5 := gA.same sm
      have s3 := same_new (o := HO.lst (ts.map fun a => V.ref a.1)) hl3
      have n3 : l3 ≠ p := g5.2.ne hl3
      have L3 : ListAt (upd H5 l3 (HO.lst (ts.map fun a => V.ref a.1))) l3 ts := ⟨upd_same, fun x hx => s3 _ _ (rw5 x hx)⟩
      have g6 := g5.same s3
      have S6 := sm.trans s3
      generalize upd H5 l3 (HO.lst (ts.map fun a => V.ref a.1)) = H6 at L3 g6 S6 ⊢
      refine ⟨by show 4 ≤ _; omega, fun l hl => ?_⟩
      have s4 := same_new (o := HO.lst [V.ref t1, V.non, V.ref t2, V.ref l3]) hl
      have G := g6.new (o := HO.lst [V.ref t1, V.non, V.ref t2, V.ref l3]) hl
      have k1 := s4 _ _ (S6 _ _ k1)
      have k2 := s4 _ _ (S6 _ _ k2)
      have L3 := L3.same s4
      obtain ⟨v, av, mv⟩ := atI_ex (xs := [V.ref t1, V.non, V.ref t2, V.ref l3]) (i := (n : Int) % 4) (Int.emod_nonneg _ (by decide)) (Int.emod_lt_of_pos _ (by decide))
      refine ⟨_, rfl, _, _, rfl, rfl, by show (0 : Int) < 4; decide, l, _, _, _, rfl, rfl, SqL.of upd_same, av, ?_⟩
      simp only [List.mem_cons, List.not_mem_nil, or_false] at mv
      rcases mv with rfl | rfl | rfl | rfl
      · refine q _ _ G ((DO.tup (k := 2) (n := 1000) (m := 58) (vs := (fs.map fun a => V.ref a.1)) (by rw [hid_ne n1]; exact k1) (fun x hx => ?_) (by rw [lf]; exact f58)).mono (by decide) (by decide)) (short_no (fun p' xs' e e' => by cases e; rw [k1] at e'; cases e')) (.inl fun p' xs' e e' _ => by cases e; rw [k1] at e'; cases e')
        obtain ⟨y, hy, rfl⟩ := List.mem_map.mp hx
        exact row_do ((keepL G).2 y hy) (G.2.tup ((keepL G).2 y hy)) w12 (raw y.2 (List.mem_map.mpr ⟨y, hy, rfl⟩))
      · exact q _ _ G (DO.non.mono (by decide) (by decide)) (short_no (flat_no rfl)) (.inl fun p' xs' e e' _ => by cases e)
      · exact q _ _ G ((DO.dct (by rw [hid_ne n2]; exact k2)).mono (by decide) (by decide)) (short_no (fun p' xs' e e' => by cases e; rw [k2] at e'; cases e')) (.inl fun p' xs' e e' _ => by cases e; rw [k2] at e'; cases e')
      · refine q _ _ G (rows_do G.2 n3 L3 (by omega) w12 raw5) (fun p' xs' e e' => by cases e; rw [L3.1] at e'; cases e'; rw [List.length_map]; omega) (.inl fun p' xs' e e' l60 => ?_)
        cases e; rw [L3.1] at e'; cases e'
        rw [List.length_map, et] at l60
        omega
    refine ⟨_, rfl, rfl, _, rfl, iteB (fun _ => ?_) fun _ => ?_⟩
    · refine ⟨_, rfl, _, rfl, by show 2 ≤ _; omega, fun l1 hl1 => ⟨_, rfl, p, 2, rfl, by decide, by decide, g12.2.new hl1, fun i2 H3 i0 i1 g3 => ?_⟩⟩
      obtain ⟨tw, aw, mw⟩ : ∃ tw : Int, atI [V.int r.2.lo, V.int r.2.hi] i2 = some (V.int tw) ∧ (tw = r.2.lo ∨ tw = r.2.hi) := by
        obtain rfl | rfl : i2 = 0 ∨ i2 = 1 := by omega
        · exact ⟨_, rfl, .inl rfl⟩
        · exact ⟨_, rfl, .inr rfl⟩
      have G3 := (g12.new (o := HO.lst [V.int r.2.lo, V.int r.2.hi]) hl1).trans g3
      refine ⟨l1, _, _, _, rfl, rfl, SqL.of (g3.1 _ _ (g12.2.ne hl1) upd_same), aw, ?_⟩
      refine ⟨_, rfl, _, rfl, p, w0, rfl, by omega, by omega, G3.2, fun th H4 t0 t1 g4 => ?_⟩
      have G4 := G3.trans g4
      refine ⟨_, rfl, _, rfl, rfl, _, rfl, ?_⟩
      refine iteN (fun σ H' => ∃ th, σ = [some (.ref p), some (.ref lm), some (.int w0), some (.int (n : Int)), some (.int way), some (.int r.2.lo), some (.int r.2.hi), some (.int r.2.t), some (.int r.2.m), some (.int tw), some (.int th), none, none, none, none] ∧ Go p H H' ∧ 0 ≤ th ∧ th < w0 ∧ th ≠ tw) ?_ ?_ (fun c => ⟨th, rfl, G4, t0, t1, fun z => by rw [z] at c; simp at c⟩)
      rotate_left
      · intro c k
        refine ⟨_, rfl, _, rfl, by show 2 ≤ _; omega, fun l2 hl2 => ⟨_, rfl, _, rfl, rfl, .inr ⟨_, rfl, ?_⟩⟩⟩
        by_cases e : tw = r.2.lo
        · refine ⟨l2, _, _, V.int r.2.hi, rfl, rfl, SqL.of upd_same, by rw [decide_eq_true (by rw [e])]; rfl, k _ _ ⟨r.2.hi, rfl, G4.new hl2, e3, e4, by omega⟩⟩
        · refine ⟨l2, _, _, V.int r.2.lo, rfl, rfl, SqL.of upd_same, by rw [decide_eq_false (fun z => e (V.int.inj z))]; rfl, k _ _ ⟨r.2.lo, rfl, G4.new hl2, e1, e2, by omega⟩⟩
      clear G4 g4 t0 t1 th H4
      rintro _ H4 ⟨th, rfl, G4, t0, t1, tn⟩
      have tw0 : 0 ≤ tw ∧ tw < w0 := by rcases mw with rfl | rfl <;> exact ⟨by assumption, by assumption⟩
      refine ⟨_, rfl, _, rfl, by show 2 ≤ _; omega, fun u1 hu1 => ⟨_, rfl, _, rfl, by show 2 ≤ _; omega, fun u2 hu2 => ⟨by show 2 ≤ _; omega, fun l2 hl2 => ⟨_, rfl, p, 2, rfl, by decide, by decide, ((G4.2.new hu1).new hu2).new hl2, fun i5 H5 i50 i51 g5 => ?_⟩⟩⟩⟩
      have s1 := same_new (o := HO.tup [V.int th, V.int tw]) hu1
      have s2 := same_new (o := HO.tup [V.int tw, V.int th]) hu2
      have s3 := same_new (o := HO.lst [V.ref u1, V.ref u2]) hl2
      have G5 := (((G4.new (o := HO.tup [V.int th, V.int tw]) hu1).new (o := HO.tup [V.int tw, V.int th]) hu2).new (o := HO.lst [V.ref u1, V.ref u2]) hl2).trans g5
      obtain ⟨tt, x, y, av, kt, xy⟩ : ∃ tt x y, atI [V.ref u1, V.ref u2] i5 = some (V.ref tt) ∧ H5 tt = some (.tup [V.int x, V.int y]) ∧ ((x = th ∧ y = tw) ∨ (x = tw ∧ y = th)) := by
        obtain rfl | rfl : i5 = 0 ∨ i5 = 1 := by omega
        · exact ⟨u1, th, tw, rfl, g5.1 _ _ (G4.2.ne hu1) (s3 _ _ (s2 _ _ upd_same)), .inl ⟨rfl, rfl⟩⟩
        · exact ⟨u2, tw, th, rfl, g5.1 _ _ ((G4.2.new hu1).ne hu2) (s3 _ _ upd_same), .inr ⟨rfl, rfl⟩⟩
      refine ⟨l2, _, _, _, rfl, rfl, SqL.of (g5.1 _ _ (((G4.2.new hu1).new hu2).ne hl2) upd_same), av, ?_⟩
      clear s1 s2 s3 av hu1 hu2 hl2 g5
      refine ⟨_, rfl, _, rfl, lm, _, rfl, .inl (SqL.of (keepL G5).1), _, _, rfl, rfl, p, _, rfl, by omega, by rw [lf]; omega, G5.2, fun to0 H6 o0 o1 g6 => ?_⟩
      obtain ⟨o, rfl⟩ := Int.eq_ofNat_of_zero_le o0
      have ho : o ≤ fs.length := by rw [lf] at o1; omega
      have G6 := G5.trans g6
      have kt6 := g6.1 _ _ (G5.2.tup kt) kt
      have hL6 := keepL G6
      clear kt g6 G5
      refine ⟨_, rfl, _, rfl, _, rfl, lm, _, rfl, SqL.of hL6.1, fun l1 hl1 => ?_⟩
      rw [cut_take (fs.map fun a => V.ref a.1) o]
      have s1 := same_new (o := HO.lst ((fs.map fun a => V.ref a.1).take o)) hl1
      refine ⟨_, rfl, _, rfl, by show 2 ≤ _; omega, fun v1 hv1 => ?_⟩
      have s2 := same_new (o := HO.tup [V.int r.2.t, V.int 1]) hv1
      refine ⟨tt, v1, _, _, rfl, rfl, SqT.of (s2 _ _ (s1 _ _ kt6)), SqT.of upd_same, by show 2 + 2 ≤ _; omega, nofun, nofun, fun _ _ v2 hv2 => ?_⟩
      have s3 := same_new (o := HO.tup ([V.int x, V.int y] ++ [V.int r.2.t, V.int 1])) hv2
      refine ⟨by show 1 ≤ _; omega, fun l3 hl3 => ?_⟩
      have s4 := same_new (o := HO.lst [V.ref v2]) hl3
      have lt : ((fs.map fun a => V.ref a.1).take o).length = o := by rw [List.length_take, lf]; omega
      refine ⟨l1, l3, _, _, rfl, rfl, s4 _ _ (s3 _ _ (s2 _ _ upd_same)), upd_same, by rw [lt]; show o + 1 ≤ _; omega, fun l4 hl4 => ?_⟩
      have s5 := same_new (o := HO.lst ((fs.map fun a => V.ref a.1).take o ++ [V.ref v2])) hl4
      have G7 := ((((G6.new (o := HO.lst ((fs.map fun a => V.ref a.1).take o)) hl1).new (o := HO.tup [V.int r.2.t, V.int 1]) hv1).new (o := HO.tup ([V.int x, V.int y] ++ [V.int r.2.t, V.int 1])) hv2).new (o := HO.lst [V.ref v2]) hl3).new (o := HO.lst ((fs.map fun a => V.ref a.1).take o ++ [V.ref v2])) hl4
      have kv7 := s5 _ _ (s4 _ _ (upd_same (a := v2) (o := HO.tup ([V.int x, V.int y] ++ [V.int r.2.t, V.int 1]))))
      have k47 : upd (upd (upd (upd (upd H6 l1 (HO.lst ((fs.map fun a => V.ref a.1).take o))) v1 (HO.tup [V.int r.2.t, V.int 1])) v2 (HO.tup ([V.int x, V.int y] ++ [V.int r.2.t, V.int 1]))) l3 (HO.lst [V.ref v2])) l4 (HO.lst ((fs.map fun a => V.ref a.1).take o ++ [V.ref v2])) l4 = some (.lst ((fs.map fun a => V.ref a.1).take o ++ [V.ref v2])) := upd_same
      generalize upd (upd (upd (upd (upd H6 l1 (HO.lst ((fs.map fun a => V.ref a.1).take o))) v1 (HO.tup [V.int r.2.t, V.int 1])) v2 (HO.tup ([V.int x, V.int y] ++ [V.int r.2.t, V.int 1]))) l3 (HO.lst [V.ref v2])) l4 (HO.lst ((fs.map fun a => V.ref a.1).take o ++ [V.ref v2])) = H7 at G7 kv7 k47 ⊢
      refine ⟨_, rfl, _, rfl, _, rfl, lm, _, rfl, SqL.of (keepL G7).1, fun l5 hl5 => ?_⟩
      rw [cut_drop (fs.map fun a => V.ref a.1) o]
      have s6 := same_new (o := HO.lst ((fs.map fun a => V.ref a.1).drop o)) hl5
      refine ⟨l4, l5, _, _, rfl, rfl, s6 _ _ k47, upd_same, by rw [List.length_append, lt, List.length_drop, lf]; show o + 1 + _ ≤ _; omega, fun l6 hl6 => ?_⟩
      have G8 := (G7.new (o := HO.lst ((fs.map fun a => V.ref a.1).drop o)) hl5).new (o := HO.lst ((fs.map fun a => V.ref a.1).take o ++ [V.ref v2] ++ (fs.map fun a => V.ref a.1).drop o)) hl6
      have s7 := same_new (o := HO.lst ((fs.map fun a => V.ref a.1).take o ++ [V.ref v2] ++ (fs.map fun a => V.ref a.1).drop o)) hl6
      have n6 : l6 ≠ p := Purse.ne (G7.2.new hl5) hl6
      have kv := s7 _ _ (s6 _ _ kv7)
      have L8 : ListAt (upd (upd H7 l5 (HO.lst ((fs.map fun a => V.ref a.1).drop o))) l6 (HO.lst ((fs.map fun a => V.ref a.1).take o ++ [V.ref v2] ++ (fs.map fun a => V.ref a.1).drop o))) l6 (fs.take o ++ [(v2, ⟨x, y, r.2.t, 1⟩)] ++ fs.drop o) := by
        refine ⟨?_, fun z hz => ?_⟩
        · rw [upd_same, List.map_append, List.map_append, List.map_take, List.map_drop]; rfl
        · rcases List.mem_append.mp hz with h | h
          · rcases List.mem_append.mp h with h | h
            · exact (keepL G8).2 z (List.mem_of_mem_take h)
            · rw [List.mem_singleton.mp h]; exact kv
          · exact (keepL G8).2 z (List.mem_of_mem_drop h)
      have em : (fs.take o ++ [(v2, (⟨x, y, r.2.t, 1⟩ : M4))] ++ fs.drop o).map (·.2) = (fs.map (·.2)).take o ++ [⟨x, y, r.2.t, 1⟩] ++ (fs.map (·.2)).drop o := by
        rw [List.map_append, List.map_append, List.map_take, List.map_drop]; rfl
      have l8 : (fs.take o ++ [(v2, (⟨x, y, r.2.t, 1⟩ : M4))] ++ fs.drop o).length = fs.length + 1 := by
        rw [List.length_append, List.length_append, List.length_take, List.length_drop]; show _ + 1 + _ = _; omega
      have raw8 : RawE w0 ((fs.take o ++ [(v2, (⟨x, y, r.2.t, 1⟩ : M4))] ++ fs.drop o).map (·.2)) := fun z hz => by
        rw [em] at hz
        rcases List.mem_append.mp hz with h | h
        · rcases List.mem_append.mp h with h | h
          · exact raw z (List.mem_of_mem_take h)
          · rw [List.mem_singleton.mp h]
            refine ⟨?_, ?_, ?_, ?_, ?_, e6, e7, by show (1 : Int) ≤ 1; omega, by show (1 : Int) ≤ 99; omega⟩ <;> (rcases xy with ⟨rfl, rfl⟩ | ⟨rfl, rfl⟩ <;> (dsimp only; omega))
        · exact raw z (List.mem_of_mem_drop h)
      refine q _ _ G8 (rows_do G8.2 n6 L8 (by omega) w12 raw8) (fun p' xs' e e' => by cases e; rw [L8.1] at e'; cases e'; rw [List.length_map]; omega) (.inr ⟨l6, _, rfl, L8, by omega, raw8, ?_⟩)
      rw [em]
      refine twice_no (r := r.2) (by rw [List.take_append_drop]; exact List.mem_map.mpr ⟨r, rm, rfl⟩) rfl fun ap => ?_
      obtain ⟨p1, p2, p3, p4⟩ := ap
      rcases xy with ⟨rfl, rfl⟩ | ⟨rfl, rfl⟩ <;> rcases mw with rfl | rfl <;> first | exact p1 rfl | exact p2 rfl | exact p3 rfl | exact p4 rfl
    refine ⟨_, rfl, rfl, _, rfl, iteA (fun σ H' => σ = [some (.ref p), some (.ref lm), some (.int w0), some (.int (n : Int)), some (.int way), some (.int r.2.lo), some (.int r.2.hi), some (.int r.2.t), some (.int r.2.m), none, none, none, none, none, none] ∧ H' = H2) ?_ ?_ fun _ => ⟨rfl, rfl⟩⟩
    rotate_left
    · intro _ k
      refine ⟨_, rfl, _, _, rfl, rfl, _, rfl, iteB (fun c4 => ?_) fun _ => k _ _ ⟨rfl, rfl⟩⟩
      have w5 : 4 < w0 := of_decide_eq_true c4
      refine ⟨_, rfl, by show 4 ≤ _; omega, fun x1 h1 => ⟨_, rfl, by show 4 ≤ _; omega, fun x2 h2 => ⟨_, rfl, by show 4 ≤ _; omega, fun x3 h3 => ⟨by show 3 ≤ _; omega, fun l hl => ?_⟩⟩⟩⟩
      have s1 := same_new (o := HO.tup [V.int 0, V.int 3, V.int r.2.t, V.int 1]) h1
      have s2 := same_new (o := HO.tup [V.int 1, V.int 2, V.int r.2.t, V.int 1]) h2
      have s3 := same_new (o := HO.tup [V.int 4, V.int 3, V.int r.2.t, V.int 1]) h3
      have s4 := same_new (o := HO.lst [V.ref x1, V.ref x2, V.ref x3]) hl
      have G4 := (((g12.new (o := HO.tup [V.int 0, V.int 3, V.int r.2.t, V.int 1]) h1).new (o := HO.tup [V.int 1, V.int 2, V.int r.2.t, V.int 1]) h2).new (o := HO.tup [V.int 4, V.int 3, V.int r.2.t, V.int 1]) h3).new (o := HO.lst [V.ref x1, V.ref x2, V.ref x3]) hl
      have k1 := s4 _ _ (s3 _ _ (s2 _ _ (upd_same (H := H2) (a := x1) (o := HO.tup [V.int 0, V.int 3, V.int r.2.t, V.int 1]))))
      have k2 := s4 _ _ (s3 _ _ (upd_same (H := upd H2 x1 (HO.tup [V.int 0, V.int 3, V.int r.2.t, V.int 1])) (a := x2) (o := HO.tup [V.int 1, V.int 2, V.int r.2.t, V.int 1])))
      have k3 := s4 _ _ (upd_same (H := upd (upd H2 x1 (HO.tup [V.int 0, V.int 3, V.int r.2.t, V.int 1])) x2 (HO.tup [V.int 1, V.int 2, V.int r.2.t, V.int 1])) (a := x3) (o := HO.tup [V.int 4, V.int 3, V.int r.2.t, V.int 1]))
      have kl : upd (upd (upd (upd H2 x1 (HO.tup [V.int 0, V.int 3, V.int r.2.t, V.int 1])) x2 (HO.tup [V.int 1, V.int 2, V.int r.2.t, V.int 1])) x3 (HO.tup [V.int 4, V.int 3, V.int r.2.t, V.int 1])) l (HO.lst [V.ref x1, V.ref x2, V.ref x3]) l = some (.lst [V.ref x1, V.ref x2, V.ref x3]) := upd_same
      generalize upd (upd (upd (upd H2 x1 (HO.tup [V.int 0, V.int 3, V.int r.2.t, V.int 1])) x2 (HO.tup [V.int 1, V.int 2, V.int r.2.t, V.int 1])) x3 (HO.tup [V.int 4, V.int 3, V.int r.2.t, V.int 1])) l (HO.lst [V.ref x1, V.ref x2, V.ref x3]) = H4 at G4 k1 k2 k3 kl ⊢
      obtain ⟨j, hj, j3⟩ : ∃ j : Nat, (n : Int) % 3 = (j : Int) ∧ j < 3 := ⟨n % 3, by omega, by omega⟩
      refine ⟨_, rfl, _, rfl, _, _, rfl, rfl, by show (0 : Int) < 3; decide, _, rfl, l, _, rfl, SqL.of kl, fun l1 hl1 => ?_⟩
      rw [hj, cut_drop [V.ref x1, V.ref x2, V.ref x3] j]
      have s5 := same_new (o := HO.lst (List.drop j [V.ref x1, V.ref x2, V.ref x3])) hl1
      refine ⟨_, rfl, _, rfl, _, _, rfl, rfl, by show (0 : Int) < 3; decide, _, rfl, l, _, rfl, SqL.of (s5 _ _ kl), fun l2 hl2 => ?_⟩
      rw [hj, cut_take [V.ref x1, V.ref x2, V.ref x3] j]
      have s6 := same_new (o := HO.lst (List.take j [V.ref x1, V.ref x2, V.ref x3])) hl2
      refine ⟨l1, l2, _, _, rfl, rfl, s6 _ _ upd_same, upd_same, by rw [List.length_drop, List.length_take]; show 3 - j + min j 3 ≤ _; omega, fun l3 hl3 => ?_⟩
      have s7 := same_new (o := HO.lst (List.drop j [V.ref x1, V.ref x2, V.ref x3] ++ List.take j [V.ref x1, V.ref x2, V.ref x3])) hl3
      have S7 := (s5.trans s6).trans s7
      have G7 := ((G4.new (o := HO.lst (List.drop j [V.ref x1, V.ref x2, V.ref x3])) hl1).new (o := HO.lst (List.take j [V.ref x1, V.ref x2, V.ref x3])) hl2).new (o := HO.lst (List.drop j [V.ref x1, V.ref x2, V.ref x3] ++ List.take j [V.ref x1, V.ref x2, V.ref x3])) hl3
      have n3 : l3 ≠ p := Purse.ne ((G4.2.new hl1).new hl2) hl3
      have L7 : ListAt (upd (upd (upd H4 l1 (HO.lst (List.drop j [V.ref x1, V.ref x2, V.ref x3]))) l2 (HO.lst (List.take j [V.ref x1, V.ref x2, V.ref x3]))) l3 (HO.lst (List.drop j [V.ref x1, V.ref x2, V.ref x3] ++ List.take j [V.ref x1, V.ref x2, V.ref x3]))) l3 (List.drop j [(x1, (⟨0, 3, r.2.t, 1⟩ : M4)), (x2, ⟨1, 2, r.2.t, 1⟩), (x3, ⟨4, 3, r.2.t, 1⟩)] ++ List.take j [(x1, (⟨0, 3, r.2.t, 1⟩ : M4)), (x2, ⟨1, 2, r.2.t, 1⟩), (x3, ⟨4, 3, r.2.t, 1⟩)]) := by
        refine ⟨by rw [upd_same, List.map_append, List.map_drop, List.map_take]; rfl, fun z hz => ?_⟩
        have hz : z ∈ [(x1, (⟨0, 3, r.2.t, 1⟩ : M4)), (x2, ⟨1, 2, r.2.t, 1⟩), (x3, ⟨4, 3, r.2.t, 1⟩)] := by
          rcases List.mem_append.mp hz with h | h
          · exact List.mem_of_mem_drop h
          · exact List.mem_of_mem_take h
        simp only [List.mem_cons, List.not_mem_nil, or_false] at hz
        rcases hz with rfl | rfl | rfl
        · exact S7 _ _ k1
        · exact S7 _ _ k2
        · exact S7 _ _ k3
      have raw7 : RawE w0 ((List.drop j [(x1, (⟨0, 3, r.2.t, 1⟩ : M4)), (x2, ⟨1, 2, r.2.t, 1⟩), (x3, ⟨4, 3, r.2.t, 1⟩)] ++ List.take j [(x1, (⟨0, 3, r.2.t, 1⟩ : M4)), (x2, ⟨1, 2, r.2.t, 1⟩), (x3, ⟨4, 3, r.2.t, 1⟩)]).map (·.2)) := fun z hz => by
        obtain ⟨y, hy, rfl⟩ := List.mem_map.mp hz
        have hy : y ∈ [(x1, (⟨0, 3, r.2.t, 1⟩ : M4)), (x2, ⟨1, 2, r.2.t, 1⟩), (x3, ⟨4, 3, r.2.t, 1⟩)] := by
          rcases List.mem_append.mp hy with h | h
          · exact List.mem_of_mem_drop h
          · exact List.mem_of_mem_take h
        simp only [List.mem_cons, List.not_mem_nil, or_false] at hy
        rcases hy with rfl | rfl | rfl <;> exact ⟨by dsimp only; omega, by dsimp only; omega, by dsimp only; omega, by dsimp only; omega, by dsimp only; omega, e6, e7, by dsimp only; omega, by dsimp only; omega⟩
      have l7 : (List.drop j [(x1, (⟨0, 3, r.2.t, 1⟩ : M4)), (x2, ⟨1, 2, r.2.t, 1⟩), (x3, ⟨4, 3, r.2.t, 1⟩)] ++ List.take j [(x1, (⟨0, 3, r.2.t, 1⟩ : M4)), (x2, ⟨1, 2, r.2.t, 1⟩), (x3, ⟨4, 3, r.2.t, 1⟩)]).length = 3 := by rw [List.length_append, List.length_drop, List.length_take]; show 3 - j + min j 3 = 3; omega
      refine q _ _ G7 (rows_do G7.2 n3 L7 (by omega) w12 raw7) (fun p' xs' e e' => by cases e; rw [L7.1] at e'; cases e'; rw [List.length_map]; omega) (.inr ⟨l3, _, rfl, L7, by omega, raw7, fun pw => ?_⟩)
      obtain rfl | rfl | rfl : j = 0 ∨ j = 1 ∨ j = 2 := by omega
      · have := not_pw (l := (List.drop 0 [(x1, (⟨0, 3, r.2.t, 1⟩ : M4)), (x2, ⟨1, 2, r.2.t, 1⟩), (x3, ⟨4, 3, r.2.t, 1⟩)] ++ List.take 0 [(x1, (⟨0, 3, r.2.t, 1⟩ : M4)), (x2, ⟨1, 2, r.2.t, 1⟩), (x3, ⟨4, 3, r.2.t, 1⟩)]).map (·.2)) (R := apt) (i := 0) (j := 2) rfl rfl (by decide) (fun h => (h rfl).2.2.2 rfl)
        exact this pw
      · have := not_pw (l := (List.drop 1 [(x1, (⟨0, 3, r.2.t, 1⟩ : M4)), (x2, ⟨1, 2, r.2.t, 1⟩), (x3, ⟨4, 3, r.2.t, 1⟩)] ++ List.take 1 [(x1, (⟨0, 3, r.2.t, 1⟩ : M4)), (x2, ⟨1, 2, r.2.t, 1⟩), (x3, ⟨4, 3, r.2.t, 1⟩)]).map (·.2)) (R := apt) (i := 1) (j := 2) rfl rfl (by decide) (fun h => (h rfl).2.2.2 rfl)
        exact this pw
      · have := not_pw (l := (List.drop 2 [(x1, (⟨0, 3, r.2.t, 1⟩ : M4)), (x2, ⟨1, 2, r.2.t, 1⟩), (x3, ⟨4, 3, r.2.t, 1⟩)] ++ List.take 2 [(x1, (⟨0, 3, r.2.t, 1⟩ : M4)), (x2, ⟨1, 2, r.2.t, 1⟩), (x3, ⟨4, 3, r.2.t, 1⟩)]).map (·.2)) (R := apt) (i := 0) (j := 1) rfl rfl (by decide) (fun h => (h rfl).2.2.2 rfl)
        exact this pw
    rintro _ _ ⟨rfl, rfl⟩
    refine ⟨_, rfl, _, rfl, _, rfl, lm, _, _, _, rfl, rfl, SqL.of hL2.1, atI_nat hat, _, rfl, p, r.1, w0, r.2, rfl, g12.2, hrow, ⟨e1, e2, e3, e4, e5, e6, e7, e8, e9, w12⟩, fun v H3 g3 dv mv => ?_⟩
    have G3 := g12.trans g3
    have hL3 := keepL G3
    have ln : ((fs.map fun a => V.ref a.1).take n).length = n := by rw [List.length_take, lf]; omega
    refine ⟨_, rfl, _, rfl, _, rfl, lm, _, rfl, SqL.of hL3.1, fun l1 hl1 => ?_⟩
    rw [cut_take (fs.map fun a => V.ref a.1) n]
    refine ⟨_, rfl, by show 1 ≤ _; omega, fun l2 hl2 => ⟨l1, l2, _, _, rfl, rfl, same_new hl2 _ _ upd_same, upd_same, by rw [ln]; show n + 1 ≤ _; omega, fun l3 hl3 => ?_⟩⟩
    have s1 := same_new (o := HO.lst ((fs.map fun a => V.ref a.1).take n)) hl1
    have s2 := same_new (o := HO.lst [v]) hl2
    have s3 := same_new (o := HO.lst ((fs.map fun a => V.ref a.1).take n ++ [v])) hl3
    have G4 := ((G3.new (o := HO.lst ((fs.map fun a => V.ref a.1).take n)) hl1).new (o := HO.lst [v]) hl2).new (o := HO.lst ((fs.map fun a => V.ref a.1).take n ++ [v])) hl3
    have S4 := (s1.trans s2).trans s3
    have k3 : upd (upd (upd H3 l1 (HO.lst ((fs.map fun a => V.ref a.1).take n))) l2 (HO.lst [v])) l3 (HO.lst ((fs.map fun a => V.ref a.1).take n ++ [v])) l3 = some (.lst ((fs.map fun a => V.ref a.1).take n ++ [v])) := upd_same
    generalize upd (upd (upd H3 l1 (HO.lst ((fs.map fun a => V.ref a.1).take n))) l2 (HO.lst [v])) l3 (HO.lst ((fs.map fun a => V.ref a.1).take n ++ [v])) = H4 at G4 S4 k3 ⊢
    refine ⟨_, rfl, _, rfl, _, _, rfl, rfl, _, rfl, lm, _, rfl, SqL.of (keepL G4).1, fun l4 hl4 => ?_⟩
    have c2 : cutV (fs.map fun a => V.ref a.1) (some ((n : Int) + 1)) none = (fs.map fun a => V.ref a.1).drop (n + 1) := cut_drop _ (n + 1)
    rw [c2]
    have s4 := same_new (o := HO.lst ((fs.map fun a => V.ref a.1).drop (n + 1))) hl4
    refine ⟨l3, l4, _, _, rfl, rfl, s4 _ _ k3, upd_same, by rw [List.length_append, ln, List.length_drop, lf]; show n + 1 + _ ≤ _; omega, fun l5 hl5 => ?_⟩
    have s5 := same_new (o := HO.lst ((fs.map fun a => V.ref a.1).take n ++ [v] ++ (fs.map fun a => V.ref a.1).drop (n + 1))) hl5
    have G5 := (G4.new (o := HO.lst ((fs.map fun a => V.ref a.1).drop (n + 1))) hl4).new (o := HO.lst ((fs.map fun a => V.ref a.1).take n ++ [v] ++ (fs.map fun a => V.ref a.1).drop (n + 1))) hl5
    have S5 := (S4.trans s4).trans s5
    have n5 : l5 ≠ p := Purse.ne (G4.2.new hl4) hl5
    have k5 : upd (upd H4 l4 (HO.lst ((fs.map fun a => V.ref a.1).drop (n + 1)))) l5 (HO.lst ((fs.map fun a => V.ref a.1).take n ++ [v] ++ (fs.map fun a => V.ref a.1).drop (n + 1))) l5 = some (.lst ((fs.map fun a => V.ref a.1).take n ++ [v] ++ (fs.map fun a => V.ref a.1).drop (n + 1))) := upd_same
    have dv5 := dv.same (hid_go (p := p) (fun b u _ e => S5 b u e))
    have ll : ((fs.map fun a => V.ref a.1).take n ++ [v] ++ (fs.map fun a => V.ref a.1).drop (n + 1)).length = fs.length := by rw [List.length_append, List.length_append, ln, List.length_drop, lf]; show n + 1 + _ = _; omega
    have dr : ∀ {x : V}, x ∈ (fs.map fun a => V.ref a.1) → DO (hid p (upd (upd H4 l4 (HO.lst ((fs.map fun a => V.ref a.1).drop (n + 1)))) l5 (HO.lst ((fs.map fun a => V.ref a.1).take n ++ [v] ++ (fs.map fun a => V.ref a.1).drop (n + 1))))) 2 1000 x := fun {x} hx => by
      obtain ⟨y, hy, rfl⟩ := List.mem_map.mp hx
      exact row_do ((keepL G5).2 y hy) (G5.2.tup ((keepL G5).2 y hy)) w12 (raw y.2 (List.mem_map.mpr ⟨y, hy, rfl⟩))
    refine q _ _ G5 ((DO.lst (k := 2) (n := 1000) (m := 58) (by rw [hid_ne n5]; exact k5) (fun x hx => ?_) (by omega)).mono (by decide) (by decide)) (fun p' xs' e e' => by cases e; rw [k5] at e'; cases e'; omega) (.inl fun p' xs' e e' _ => ?_)
    · rcases List.mem_append.mp hx with h | h
      · rcases List.mem_append.mp h with h | h
        · exact dr (List.mem_of_mem_take h)
        · rw [List.mem_singleton.mp h]; exact dv5
      · exact dr (List.mem_of_mem_drop h)
    · cases e; rw [k5] at e'; cases e'
      obtain ⟨d0, a0, _⟩ := dv.out
      exact ⟨v, List.mem_append_left _ (List.mem_append_right _ (List.mem_singleton.mpr rfl)), by rw [meetV_same a0 S5]; exact mv⟩
theorem sc__law_marks : FnScope ["_law_rooms_here", "_law_rows", "_law_found", "_law_e"] ["_law_rooms_here", "_law_rows"] (defScope s__law_marks) := ⟨rfl, rfl, rfl, by decide +kernel, rfl, by decide +kernel, by decide +kernel⟩
theorem ok__law_marks (T : Tx K mg a t_LAST_TIME t_MOST_WALKERS t_MOST_ROOM t_MOST_MEETINGS t_MOST_MANY) (B : BmAt mg base) : FnOk P w K mg base CX0 5 a.a__law_marks a.d__law_marks ["_law_rooms_here", "_law_rows"] (spMarks3 a.tP lamPos) := by
  have G_made_book := @ok_made_book P w _ _ base _ _ _ _ _ _ T B
  refine T.F__law_marks.ok sc__law_marks (fun vs H Q E h => ?_) (fun cdv A outer s H vs Q E hr h => ?_)
  · rcases h with ⟨_, _, _, _, rfl, _⟩ | ⟨_, _, rfl, _⟩ <;> rfl
  · have nd := sc__law_marks.nd
    have hu := hr.units
    skip
    refine ⟨_, (@bl_out _ _ _ (@bl_c _ _ _ _ _ _ (ps_set (i := 2) nd rfl (by first | exact Or.inl rfl | exact Or.inr rfl) (@pe_lst _ _ _ _ pa_nil)) (@bl_c _ _ _ _ _ _ (ps_tryAs (i := 3) rfl (psx_call G_made_book (hr.mono (by decide)) rfl T.m_made_book T.k_made_book T.i_made_book .nil (@pa_out _ _ _ (@pa_c _ _ _ _ _ (pv 0) (@pa_c _ _ _ _ _ (pv 1) pa_n rfl) rfl))) rfl rfl rfl T.m_MeetError nd rfl rfl (fun _ => (@bl_out _ _ _ (@bl_c _ _ _ _ _ _ (ps_set (i := 2) nd rfl (by first | exact Or.inl rfl | exact Or.inr rfl) (@pe_lst _ _ _ _ (@pa_out _ _ _ (@pa_c _ _ _ _ _ (pe_callB (call_isX rfl) (by rfl) T.b_isinstance PyProof.Rows.boot_isinstance (@pa_out _ _ _ (@pa_c _ _ _ _ _ (pv 3) (@pa_c _ _ _ _ _ (pe_glob (v := V.ref a.c_NoBook) (by rfl) T.m_NoBook rfl) pa_n rfl) rfl))) (@pa_c _ _ _ _ _ (pe_callB (call_isX rfl) (by rfl) T.b_isinstance PyProof.Rows.boot_isinstance (@pa_out _ _ _ (@pa_c _ _ _ _ _ (pv 3) (@pa_c _ _ _ _ _ (pe_bltn (v := V.ty "ValueError") rfl T.b_ValueError PyProof.Rows.Boot.«ValueError» rfl) pa_n rfl) rfl))) pa_n rfl) rfl)))) (@bl_c _ _ _ _ _ _ (ps_expr (pe_bmK rfl PySem.F.plainAttrs_list PySem.F.slot_list_append PySem.F.type_list_append mt_append (pv 2) (@pa_out _ _ _ (@pa_c _ _ _ _ _ (pe_callB (call_isXT rfl) (by rfl) T.b_isinstance PyProof.Rows.boot_isinstance (@pa_out _ _ _ (@pa_c _ _ _ _ _ (pv 3) (@pa_c _ _ _ _ _ (@pe_tup _ _ _ _ _ (@pa_out _ _ _ (@pa_c _ _ _ _ _ (pe_glob (v := V.ref a.c_NoMeeting) (by rfl) T.m_NoMeeting rfl) (@pa_c _ _ _ _ _ (pe_glob (v := V.ref a.c_NoDeed) (by rfl) T.m_NoDeed rfl) (@pa_c _ _ _ _ _ (pe_glob (v := V.ref a.c_NoLetter) (by rfl) T.m_NoLetter rfl) (@pa_c _ _ _ _ _ (pe_glob (v := V.ref a.c_NoWalker) (by rfl) T.m_NoWalker rfl) (@pa_c _ _ _ _ _ (pe_glob (v := V.ref a.c_NotThere) (by rfl) T.m_NotThere rfl) (@pa_c _ _ _ _ _ (pe_glob (v := V.ref a.c_HasIt) (by rfl) T.m_HasIt rfl) (@pa_c _ _ _ _ _ (pe_glob (v := V.ref a.c_NoPass) (by rfl) T.m_NoPass rfl) (@pa_c _ _ _ _ _ (pe_glob (v := V.ref a.c_NoRoom) (by rfl) T.m_NoRoom rfl) pa_n rfl) rfl) rfl) rfl) rfl) rfl) rfl) rfl))) pa_n rfl) rfl))) pa_n rfl)))) (@bl_1 _ _ _ (ps_expr (pe_bmK rfl PySem.F.plainAttrs_list PySem.F.slot_list_append PySem.F.type_list_append mt_append (pv 2) (@pa_out _ _ _ (@pa_c _ _ _ _ _ (pe_callB (call_isXT rfl) (by rfl) T.b_isinstance PyProof.Rows.boot_isinstance (@pa_out _ _ _ (@pa_c _ _ _ _ _ (pv 3) (@pa_c _ _ _ _ _ (@pe_tup _ _ _ _ _ (@pa_out _ _ _ (@pa_c _ _ _ _ _ (pe_glob (v := V.ref a.c_NoRule) (by rfl) T.m_NoRule rfl) (@pa_c _ _ _ _ _ (pe_glob (v := V.ref a.c_TooMany) (by rfl) T.m_TooMany rfl) (@pa_c _ _ _ _ _ (pe_glob (v := V.ref a.c_NoDay) (by rfl) T.m_NoDay rfl) (@pa_c _ _ _ _ _ (pe_glob (v := V.ref a.c_NoClaim) (by rfl) T.m_NoClaim rfl) (@pa_c _ _ _ _ _ (pe_glob (v := V.ref a.c_NoText) (by rfl) T.m_NoText rfl) (@pa_c _ _ _ _ _ (pe_glob (v := V.ref a.c_NoRow) (by rfl) T.m_NoRow rfl) (@pa_c _ _ _ _ _ (pe_glob (v := V.ref a.c_NoName) (by rfl) T.m_NoName rfl) (@pa_c _ _ _ _ _ (pe_glob (v := V.ref a.c_Twice) (by rfl) T.m_Twice rfl) pa_n rfl) rfl) rfl) rfl) rfl) rfl) rfl) rfl))) pa_n rfl) rfl))) pa_n rfl)))))))))) (@bl_1 _ _ _ (@ps_ret _ _ _ _ (pv 2)))))), ?_⟩
    have line := line9
    rcases h with ⟨pr, pm, rooms, fs, rfl, ra, hL, raw, mt, q⟩ | ⟨r, m, rfl, rf, q⟩
    · refine ⟨by show 0 ≤ _; omega, fun l0 hl0 => ?_⟩
      have s1 := same_new (o := HO.lst []) hl0
      have k1 : upd H l0 (HO.lst []) l0 = some (.lst []) := upd_same
      generalize upd H l0 (HO.lst []) = H1 at s1 k1 ⊢
      have mt1 := L2.MT.same mt s1
      have nT : l0 ≠ a.tP := fun z => by
        rcases mt1 with m | ⟨_, m, _⟩ <;> (rw [← z, k1] at m; cases m)
      refine ⟨_, rfl, _, rfl, .inl ⟨pr, pm, rooms, fs, rfl, s1 _ _ ra.1, ra.2.1, ra.2.2.1, ra.2.2.2, hL.same s1, raw, mt1, fun b tr tm ps H2 b2 mt2 _ _ _ => ⟨_, rfl, q l0 H2 (fun x u n e => b2 x u n (s1 _ _ e)) mt2 (b2 _ _ nT k1) nT⟩⟩⟩
    refine ⟨by show 0 ≤ _; omega, fun l0 hl0 => ?_⟩
    have s1 := same_new (o := HO.lst []) hl0
    refine ⟨_, rfl, _, rfl, .inr ⟨r, m, rfl, rf.same s1, fun H1 s1' => ⟨T.f_em, _, rfl, fun x hx => ?_⟩⟩⟩
    have s2 := (s1.trans s1').trans (same_new (o := excO x a.c_NoBook) hx)
    have hx2 : upd H1 x (excO x a.c_NoBook) x = some (excO x a.c_NoBook) := upd_same
    generalize upd H1 x (excO x a.c_NoBook) = H2 at s2 hx2 ⊢
    refine ⟨_, rfl, x, _, _, true, rfl, hx2, T.x_NoBook, rfl, inv_self, ?_⟩
    refine ⟨_, rfl, x, _, _, true, rfl, hx2, T.x_NoBook, rfl, T.f_ve, ?_⟩
    refine ⟨by show 2 ≤ _; omega, fun l1 hl1 => ?_⟩
    have s3 := s2.trans (same_new (o := HO.lst [V.bl true, V.bl true]) hl1)
    have h3 : upd H2 l1 (HO.lst [V.bl true, V.bl true]) l1 = some (.lst [V.bl true, V.bl true]) := upd_same
    have hx3 := same_new (o := HO.lst [V.bl true, V.bl true]) hl1 _ _ hx2
    have fr3 : H l1 = none := s2.free hl1
    generalize upd H2 l1 (HO.lst [V.bl true, V.bl true]) = H3 at s3 h3 hx3 ⊢
    refine app_kit (cs := [V.ref a.c_NoMeeting, V.ref a.c_NoDeed, V.ref a.c_NoLetter, V.ref a.c_NoWalker, V.ref a.c_NotThere, V.ref a.c_HasIt, V.ref a.c_NoPass, V.ref a.c_NoRoom]) rfl rfl h3 hx3 T.x_NoBook rfl T.f_ka (by decide) (by show 8 ≤ 50; decide) (fun _ _ q => q) fun H4 b4 h4 hx4 => ?_
    refine app_kit (cs := [V.ref a.c_NoRule, V.ref a.c_TooMany, V.ref a.c_NoDay, V.ref a.c_NoClaim, V.ref a.c_NoText, V.ref a.c_NoRow, V.ref a.c_NoName, V.ref a.c_Twice]) rfl rfl h4 hx4 T.x_NoBook rfl T.f_kb (by decide) (by show 8 ≤ 50; decide) (fun _ _ q => q) fun H5 b5 h5 hx5 => ?_
    exact ⟨_, rfl, q l1 H5 (But.same fr3 s3 (b4.trans b5)) h5⟩
theorem sc_law : FnScope ["_law_script", "_law_good", "_law_most", "_law_k", "_law_purse_here", "_law_rooms_here", "_law_rows", "_law_which", "_law_kept"] ["_law_script"] (defScope s_law) := ⟨rfl, rfl, rfl, by decide +kernel, rfl, by decide +kernel, by decide +kernel⟩
theorem ok_law (T : Tx K mg a t_LAST_TIME t_MOST_WALKERS t_MOST_ROOM t_MOST_MEETINGS t_MOST_MANY) (B : BmAt mg base) : FnOk P w K mg base CX0 6 a.a_law a.d_law ["_law_script"] (spLawT K a.tP lamPos) := by
  have G__law_purse := @ok__law_purse P w _ _ base _ _ _ _ _ _ T B
  have G__law_take := @ok__law_take P w _ _ base _ _ _ _ _ _ T B
  have G__law_book := @ok__law_book P w _ _ base _ _ _ _ _ _ T B
  have G__law_bad_rooms := @ok__law_bad_rooms P w _ _ base _ _ _ _ _ _ T B
  have G__law_bad_rows := @ok__law_bad_rows P w _ _ base _ _ _ _ _ _ T B
  have G__law_marks := @ok__law_marks P w _ _ base _ _ _ _ _ _ T B
  refine T.F_law.ok sc_law (fun vs H Q E h => ?_) (fun cdv A outer s H vs Q E hr h => ?_)
  · obtain ⟨_, _, rfl, _⟩ := h; rfl
  · have nd := sc_law.nd
    have hu := hr.units
    obtain ⟨sa, ns, rfl, hS, hn, mt, q⟩ := h
    refine ⟨_, (@bl_out _ _ _ (@bl_c _ _ _ _ _ _ (@ps_set _ _ 1 _ _ _ _ nd rfl (by first | exact Or.inl rfl | exact Or.inr rfl) (pe_call G__law_book (hr.mono (by decide)) rfl T.m__law_book T.k__law_book T.i__law_book .nil pass0 (@pa_out _ _ _ (@pa_c _ _ _ _ _ (pe_call G__law_purse (hr.mono (by decide)) rfl T.m__law_purse T.k__law_purse T.i__law_purse .nil pass0 (@pa_out _ _ _ (@pa_c _ _ _ _ _ (pv 0) (@pa_c _ _ _ _ _ pe_int pa_n rfl) rfl))) (@pa_c _ _ _ _ _ pe_int (@pa_c _ _ _ _ _ pe_int pa_n rfl) rfl) rfl))) rfl (by first | exact .inl rfl | exact .inr rfl | assumption)) (@bl_c _ _ _ _ _ _ (@ps_if _ _ _ _ _ _ _ _ (@pt_cmpR _ _ _ _ _ _ _ _ (op_eqUnit hu) (@pe_ix _ _ _ _ _ _ _ (ix_tup' rfl) (pv 1) pe_int (fun _ _ => rfl)) (@pe_tup _ _ _ _ _ pa_nil) (nomark _)) (@bl_out _ _ _ (@bl_1 _ _ _ (@ps_set _ _ 1 _ _ _ _ nd rfl (by first | exact Or.inl rfl | exact Or.inr rfl) (@pe_tup _ _ _ _ _ (@pa_out _ _ _ (@pa_c _ _ _ _ _ (@pe_tup _ _ _ _ _ (@pa_out _ _ _ (@pa_c _ _ _ _ _ pe_int (@pa_c _ _ _ _ _ pe_int pa_n rfl) rfl))) (@pa_c _ _ _ _ _ (@pe_tup _ _ _ _ _ (@pa_out _ _ _ (@pa_c _ _ _ _ _ (@pe_tup _ _ _ _ _ (@pa_out _ _ _ (@pa_c _ _ _ _ _ pe_int (@pa_c _ _ _ _ _ pe_int (@pa_c _ _ _ _ _ (@pe_op _ _ _ _ _ _ _ _ op_pow pe_int pe_int) (@pa_c _ _ _ _ _ pe_int pa_n rfl) rfl) rfl) rfl))) pa_n rfl))) pa_n rfl) rfl))) rfl (by first | exact .inl rfl | exact .inr rfl | assumption)))) pss_nil) (@bl_c _ _ _ _ _ _ (ps_setComp (ix := 2) nd rfl (by first | exact Or.inl rfl | exact Or.inr rfl) (own := ["_law_k"]) (caps := []) rfl (show CompScope ["_law_k"] [] ["_law_script", "_law_good", "_law_most", "_law_k", "_law_purse_here", "_law_rooms_here", "_law_rows", "_law_which", "_law_kept"] (defScope s_law) _ from ⟨rfl, by decide +kernel, by decide +kernel, by decide +kernel, by decide +kernel⟩) (pi_range1 rfl T.b_range (@pa_out _ _ _ (@pa_c _ _ _ _ _ pe_int pa_n rfl))) (fun _ _ _ _ => (pg_name (i := 0) (show List.Nodup (["_law_k"] : List Str) from by decide +kernel) rfl (by first | exact Or.inl rfl | exact Or.inr rfl))) (fun _ _ _ _ => pts_nil) (fun _ _ _ _ => (@pe_tup _ _ _ _ _ (@pa_out _ _ _ (@pa_c _ _ _ _ _ pe_int (@pa_c _ _ _ _ _ pe_int (@pa_c _ _ _ _ _ (@pe_op _ _ _ _ _ _ _ _ op_add pe_int (@pe_op _ _ _ _ _ _ _ _ op_fdivB (@pe_op _ _ _ _ _ _ _ _ op_mul (pv 0) (@pe_op _ _ _ _ _ _ _ _ op_sub (@pe_op _ _ _ _ _ _ _ _ op_pow pe_int pe_int) pe_int)) pe_int)) (@pa_c _ _ _ _ _ (@pe_op _ _ _ _ _ _ _ _ op_add pe_int (@pe_op _ _ _ _ _ _ _ _ op_mul pe_int (@pe_op _ _ _ _ _ _ _ _ op_mod (pv 0) pe_int))) pa_n rfl) rfl) rfl) rfl))))) (@bl_c _ _ _ _ _ _ (@ps_if _ _ _ _ _ _ _ _ (@pt_cmpR _ _ _ _ _ _ _ _ (op_neE hu) (pe_call G__law_marks (hr.mono (by decide)) rfl T.m__law_marks T.k__law_marks T.i__law_marks .nil pass0 (@pa_out _ _ _ (@pa_c _ _ _ _ _ (@pe_lst _ _ _ _ (@pa_out _ _ _ (@pa_c _ _ _ _ _ pe_int (@pa_c _ _ _ _ _ pe_int pa_n rfl) rfl))) (@pa_c _ _ _ _ _ (pv 2) pa_n rfl) rfl))) (@pe_lst _ _ _ _ pa_nil) (nomark _)) (@bl_out _ _ _ (@bl_1 _ _ _ (@ps_ret _ _ _ _ pe_bl))) pss_nil) (@bl_c _ _ _ _ _ _ (ps_for PassesOwn.never rfl (pi_range2 rfl T.b_range (@pa_out _ _ _ (@pa_c _ _ _ _ _ pe_int (@pa_c _ _ _ _ _ (@pe_op _ _ _ _ _ _ _ _ op_add pe_int (pe_callB (call_min2 rfl) (by rfl) T.b_min PyProof.Rows.boot_min (@pa_out _ _ _ (@pa_c _ _ _ _ _ pe_int (@pa_c _ _ _ _ _ (pe_callB (call_max2 rfl) (by rfl) T.b_max PyProof.Rows.boot_max (@pa_out _ _ _ (@pa_c _ _ _ _ _ pe_int (@pa_c _ _ _ _ _ (pe_callB (call_len_seq' rfl) (by rfl) T.b_len PySem.boot_len (@pa_out _ _ _ (@pa_c _ _ _ _ _ (pv 0) pa_n rfl))) pa_n rfl) rfl))) pa_n rfl) rfl)))) pa_n rfl) rfl))) (pg_name (i := 3) nd rfl (by first | exact Or.inl rfl | exact Or.inr rfl)) (@bl_out _ _ _ (@bl_c _ _ _ _ _ _ (@ps_set _ _ 4 _ _ _ _ nd rfl (by first | exact Or.inl rfl | exact Or.inr rfl) (pe_call G__law_purse (hr.mono (by decide)) rfl T.m__law_purse T.k__law_purse T.i__law_purse .nil pass0 (@pa_out _ _ _ (@pa_c _ _ _ _ _ (pv 0) (@pa_c _ _ _ _ _ (pv 3) pa_n rfl) rfl))) rfl (by first | exact .inl rfl | exact .inr rfl | assumption)) (@bl_c _ _ _ _ _ _ (@ps_set _ _ 5 _ _ _ _ nd rfl (by first | exact Or.inl rfl | exact Or.inr rfl) (pe_callTy (call_list_of' rfl) (by rfl) T.b_list PyProof.Rows.boot_list (@pa_out _ _ _ (@pa_c _ _ _ _ _ (@pe_ix _ _ _ _ _ _ _ (ix_tup' rfl) (pv 1) pe_int (fun _ _ => rfl)) pa_n rfl))) rfl (by first | exact .inl rfl | exact .inr rfl | assumption)) (@bl_c _ _ _ _ _ _ (@ps_set _ _ 6 _ _ _ _ nd rfl (by first | exact Or.inl rfl | exact Or.inr rfl) (pe_callTy (call_list_of' rfl) (by rfl) T.b_list PyProof.Rows.boot_list (@pa_out _ _ _ (@pa_c _ _ _ _ _ (@pe_ix _ _ _ _ _ _ _ (ix_tup' rfl) (pv 1) pe_int (fun _ _ => rfl)) pa_n rfl))) rfl (by first | exact .inl rfl | exact .inr rfl | assumption)) (@bl_c _ _ _ _ _ _ (@ps_set _ _ 7 _ _ _ _ nd rfl (by first | exact Or.inl rfl | exact Or.inr rfl) (pe_call G__law_take (hr.mono (by decide)) rfl T.m__law_take T.k__law_take T.i__law_take .nil pass0 (@pa_out _ _ _ (@pa_c _ _ _ _ _ (pv 4) (@pa_c _ _ _ _ _ pe_int pa_n rfl) rfl))) rfl (by first | exact .inl rfl | exact .inr rfl | assumption)) (@bl_c _ _ _ _ _ _ (@ps_if _ _ _ _ _ _ _ _ (@pt_cmpR _ _ _ _ _ _ _ _ op_gt (pv 7) pe_int (nomark _)) (@bl_out _ _ _ (@bl_1 _ _ _ (@ps_set _ _ 6 _ _ _ _ nd rfl (by first | exact Or.inl rfl | exact Or.inr rfl) (pe_call G__law_bad_rows (hr.mono (by decide)) rfl T.m__law_bad_rows T.k__law_bad_rows T.i__law_bad_rows .nil pass0 (@pa_out _ _ _ (@pa_c _ _ _ _ _ (pv 4) (@pa_c _ _ _ _ _ (pv 6) (@pa_c _ _ _ _ _ (pe_callB (call_len_seq' rfl) (by rfl) T.b_len PySem.boot_len (@pa_out _ _ _ (@pa_c _ _ _ _ _ (pv 5) pa_n rfl))) pa_n rfl) rfl) rfl))) rfl (by first | exact .inl rfl | exact .inr rfl | assumption)))) pss_nil) (@bl_c _ _ _ _ _ _ (@ps_if _ _ _ _ _ _ _ _ (@pt_cmpR _ _ _ _ _ _ _ _ op_lt (pv 7) pe_int (nomark _)) (@bl_out _ _ _ (@bl_1 _ _ _ (@ps_set _ _ 5 _ _ _ _ nd rfl (by first | exact Or.inl rfl | exact Or.inr rfl) (pe_call G__law_bad_rooms (hr.mono (by decide)) rfl T.m__law_bad_rooms T.k__law_bad_rooms T.i__law_bad_rooms .nil pass0 (@pa_out _ _ _ (@pa_c _ _ _ _ _ (pv 4) (@pa_c _ _ _ _ _ (pv 5) pa_n rfl) rfl))) rfl (by first | exact .inl rfl | exact .inr rfl | assumption)))) pss_nil) (@bl_c _ _ _ _ _ _ (@ps_set _ _ 8 _ _ _ _ nd rfl (by first | exact Or.inl rfl | exact Or.inr rfl) (pe_callB (call_repr hr.gd hu) (by rfl) T.b_repr PyProof.Rows.boot_repr (@pa_out _ _ _ (@pa_c _ _ _ _ _ (@pe_tup _ _ _ _ _ (@pa_out _ _ _ (@pa_c _ _ _ _ _ (pv 5) (@pa_c _ _ _ _ _ (pv 6) pa_n rfl) rfl))) pa_n rfl))) rfl (by first | exact .inl rfl | exact .inr rfl | assumption)) (@bl_c _ _ _ _ _ _ (@ps_if _ _ _ _ _ _ _ _ (@pt_cmpR _ _ _ _ _ _ _ _ (op_neE hu) (pe_call G__law_marks (hr.mono (by decide)) rfl T.m__law_marks T.k__law_marks T.i__law_marks .nil pass0 (@pa_out _ _ _ (@pa_c _ _ _ _ _ (pv 5) (@pa_c _ _ _ _ _ (pv 6) pa_n rfl) rfl))) (@pe_lst _ _ _ _ (@pa_out _ _ _ (@pa_c _ _ _ _ _ pe_bl (@pa_c _ _ _ _ _ pe_bl (@pa_c _ _ _ _ _ pe_bl (@pa_c _ _ _ _ _ pe_bl pa_n rfl) rfl) rfl) rfl))) (nomark _)) (@bl_out _ _ _ (@bl_1 _ _ _ (@ps_ret _ _ _ _ pe_bl))) pss_nil) (@bl_c _ _ _ _ _ _ (@ps_if _ _ _ _ _ _ _ _ (@pt_cmpR _ _ _ _ _ _ _ _ op_ne (pe_callB (call_repr hr.gd hu) (by rfl) T.b_repr PyProof.Rows.boot_repr (@pa_out _ _ _ (@pa_c _ _ _ _ _ (@pe_tup _ _ _ _ _ (@pa_out _ _ _ (@pa_c _ _ _ _ _ (pv 5) (@pa_c _ _ _ _ _ (pv 6) pa_n rfl) rfl))) pa_n rfl))) (pv 8) (nomark _)) (@bl_out _ _ _ (@bl_1 _ _ _ (@ps_ret _ _ _ _ pe_bl))) pss_nil) (@bl_1 _ _ _ (@ps_if _ _ _ _ _ _ _ _ (@pt_cmpR _ _ _ _ _ _ _ _ (op_neE hu) (pe_call G__law_marks (hr.mono (by decide)) rfl T.m__law_marks T.k__law_marks T.i__law_marks .nil pass0 (@pa_out _ _ _ (@pa_c _ _ _ _ _ (pe_callTy (call_list_of' rfl) (by rfl) T.b_list PyProof.Rows.boot_list (@pa_out _ _ _ (@pa_c _ _ _ _ _ (@pe_ix _ _ _ _ _ _ _ (ix_tup' rfl) (pv 1) pe_int (fun _ _ => rfl)) pa_n rfl))) (@pa_c _ _ _ _ _ (pe_callTy (call_list_of' rfl) (by rfl) T.b_list PyProof.Rows.boot_list (@pa_out _ _ _ (@pa_c _ _ _ _ _ (@pe_ix _ _ _ _ _ _ _ (ix_tup' rfl) (pv 1) pe_int (fun _ _ => rfl)) pa_n rfl))) pa_n rfl) rfl))) (@pe_lst _ _ _ _ pa_nil) (nomark _)) (@bl_out _ _ _ (@bl_1 _ _ _ (@ps_ret _ _ _ _ pe_bl))) pss_nil))))))))))))) (@bl_1 _ _ _ (@ps_ret _ _ _ _ pe_bl)))))))), ?_⟩
    have line := line9
    have c9 : CPow 10 9 := ⟨by decide, by decide, by decide⟩
    refine ⟨_, rfl, sa, ns, 0, rfl, hS, by decide, fun p H1 hp1 pu1 s1 => ?_⟩
    have mt1 := L2.MT.same mt s1
    refine ⟨p, 12, 58, rfl, by decide, by decide, by decide, pu1, fun bF roomsF trF tmF psF H2 g2 hbF rm1F rm2F rm9F gdF n58F => ?_⟩
    have mt2 := L2.MT.go mt1 pu1 g2
    have sA : Same H H2 := fun x u e => g2.1 x u (ne_of_none e hp1) (s1 _ _ e)
    have smS := sA.seq hS
    clear s1 hp1 pu1 g2 mt1
    refine ⟨_, rfl, bF, _, _, _, rfl, rfl, SqT.of hbF.book, rfl, Nat.zero_le _, fun t0 ht0 => ⟨tmF, t0, _, rfl, rfl, SqT.of (same_new ht0 _ _ hbF.meets), SqT.of upd_same, _, rfl, ?_⟩⟩
    have s0 := same_new (o := HO.tup []) ht0
    generalize upd H2 t0 (HO.tup []) = H3 at s0 ⊢
    refine iteN (fun σ H' => ∃ b rooms tr tm ps, σ = [some (.ref sa), some (.ref b), none, none, none, none, none, none, none] ∧ BookAt H' b rooms tr tm ps ∧ 1 ≤ rooms.length ∧ rooms.length ≤ 12 ∧ (∀ r ∈ rooms, (0 : Int) ≤ r ∧ r ≤ 99) ∧ Good rooms.length (ps.map (·.2)) ∧ 1 ≤ ps.length ∧ ps.length ≤ 58 ∧ Same H2 H') ?_ ?_ ?_
    rotate_left
    · intro c k
      refine ⟨by show 2 ≤ _; omega, fun t1 ht1 => ⟨_, _, rfl, rfl, c9, by show 4 ≤ _; omega, fun u1 hu1 => ⟨by show 1 ≤ _; omega, fun u2 hu2 => ⟨by show 2 ≤ _; omega, fun b1 hb1 => ?_⟩⟩⟩⟩
      have s1 := same_new (o := HO.tup [V.int 0, V.int 99]) ht1
      have s2 := same_new (o := HO.tup [V.int 0, V.int 1, V.int (10 ^ Int.toNat 9), V.int 99]) hu1
      have s3 := same_new (o := HO.tup [V.ref u1]) hu2
      have s4 := same_new (o := HO.tup [V.ref t1, V.ref u2]) hb1
      refine k _ _ ⟨b1, [0, 99], t1, u2, [(u1, ⟨0, 1, 10 ^ Int.toNat 9, 99⟩)], rfl, ⟨upd_same, s4 _ _ (s3 _ _ (s2 _ _ upd_same)), s4 _ _ upd_same, fun x hx => ?_⟩, by decide, by decide, by decide, one_good, by show 1 ≤ 1; decide, by show 1 ≤ 58; decide, s0.trans (((s1.trans s2).trans s3).trans s4)⟩
      rw [List.mem_singleton.mp hx]
      exact s4 _ _ (s3 _ _ upd_same)
    · intro c
      refine ⟨bF, roomsF, trF, tmF, psF, rfl, hbF.same s0, rm1F, by omega, rm9F, gdF, ?_, n58F, s0⟩
      cases psF with
      | nil => exact absurd c (by decide)
      | cons x xs => exact Nat.succ_le_succ (Nat.zero_le _)
    clear hbF rm1F rm2F rm9F gdF n58F s0 H3
    rintro _ H3 ⟨b, rooms, tr, tm, ps, rfl, hb, rm1, rm2, rm9, gd, p1, p58, s3⟩
    have mt3 := L2.MT.same mt2 s3
    have smS3 := s3.seq smS
    have w2 : 2 ≤ rooms.length := by
      obtain ⟨x, xs, e⟩ : ∃ x xs, ps = x :: xs := by cases ps with
        | nil => cases p1
        | cons x xs => exact ⟨x, xs, rfl⟩
      have := gd.each x.2 (by rw [e]; exact List.mem_cons_self)
      omega
    refine ⟨60, rfl, by decide, by decide, ?_⟩
    refine comp_range (lo := 0) (m := 60) (fun i τ acc H5 => ∃ ts : List (Addr × M4), (∃ t0, τ = [t0]) ∧ acc = (ts.map fun a => V.ref a.1) ∧ ts.map (·.2) = (List.range i).map mostF ∧ Same H3 H5 ∧ RowsAt H5 ts) ⟨[], ⟨_, rfl⟩, rfl, rfl, Same.refl _, nofun⟩ (by omega) ?_ ?_ ?_
    · rintro i τ acc H5 ⟨ts, _, rfl, e, _⟩
      have := congrArg List.length e
      simp at this
      rw [List.length_map]; omega
    · rintro i τ acc H5 C hi ⟨ts, ⟨t0, rfl⟩, rfl, et, sm, rw5⟩ hC
      refine ⟨_, rfl, _, _, rfl, rfl, c9, _, _, rfl, rfl, _, _, rfl, rfl, .inl ⟨?_, ?_⟩, _, _, rfl, rfl, ⟨by decide, by decide⟩, _, _, rfl, rfl, _, rfl, _, _, rfl, rfl, by show (0 : Int) < 2; decide, _, _, rfl, rfl, .inl ⟨by decide, by decide⟩, _, _, rfl, rfl, by show 4 ≤ _; omega, fun u hu => hC _ _ _ ⟨ts ++ [(u, mostF i)], ⟨_, rfl⟩, by rw [List.map_append]; rfl, by rw [List.map_append, et, List.range_succ, List.map_append]; rfl, sm.trans (same_new hu), fun x hx => ?_⟩⟩
      · omega
      · omega
      · rcases List.mem_append.mp hx with h | h
        · exact same_new hu _ _ (rw5 x h)
        · rw [List.mem_singleton.mp h]; exact upd_same
    rintro τ acc H5 ⟨ts, ⟨t0, rfl⟩, rfl, et, sm, rw5⟩ lm hlm
    have s4 := same_new (o := HO.lst (ts.map fun a => V.ref a.1)) hlm
    have L4 : ListAt (upd H5 lm (HO.lst (ts.map fun a => V.ref a.1))) lm ts := ⟨upd_same, fun x hx => s4 _ _ (rw5 x hx)⟩
    have s34 := sm.trans s4
    generalize upd H5 lm (HO.lst (ts.map fun a => V.ref a.1)) = H6 at L4 s34 ⊢
    refine ⟨by show 2 ≤ _; omega, fun l1 hl1 => ⟨_, rfl, ?_⟩⟩
    have s7 := same_new (o := HO.lst [V.int 99, V.int 0]) hl1
    refine .inl ⟨l1, lm, [99, 0], ts, rfl, ⟨upd_same, by decide, by decide, by decide⟩, L4.same s7, by rw [et]; exact most_raw, L2.MT.same mt3 (s34.trans s7), fun l2 H7 b7 mt7 k7 n7 => ?_⟩
    have mtA := L2.MT.same mt3 (s34.trans s7)
    have tA : Tups H3 H7 := fun c xs e => MT.tups' mtA b7 c xs ((s34.trans s7) _ _ e)
    have hb7 := hb.tups tA
    have hS7 := MT.seq mtA b7 ((s34.trans s7).seq smS3)
    refine ⟨Nat.zero_le _, fun l3 hl3 => eq_flat3 (xs := []) nofun (same_new hl3 _ _ k7) upd_same ⟨_, rfl, iteB0 rfl ?_⟩⟩
    have s8 := same_new (o := HO.lst []) hl3
    have hb8 := hb7.same s8
    have mt8 := L2.MT.same mt7 s8
    have hS8 := s8.seq hS7
    generalize upd H7 l3 (HO.lst []) = H8 at hb8 mt8 hS8 ⊢
    clear hb7 mt7 hS7 s8 hl3 k7 n7 b7 mtA tA s7 hl1 L4 s34 s4 rw5 sm et smS3 mt3 hb s3 mt2 sA smS hS mt
    have raw : Raw rooms.length (ps.map (·.2)) := good_raw gd
    refine ⟨_, rfl, sa, _, rfl, .inl hS8, _, _, rfl, _, _, rfl, _, _, rfl, rfl, _, _, rfl, ?_, ?_⟩
    · refine ⟨by decide, by decide, ?_, ?_⟩
      · split <;> (try split) <;> omega
      · rw [List.length_map]; split <;> (try split) <;> omega
    refine for_range (lo := 1) (fun i σ H6 => (∃ v3 v4 v5 v6 v7 v8, σ = [some (.ref sa), some (.ref b), some (.ref lm), v3, v4, v5, v6, v7, v8]) ∧ BookAt H6 b rooms tr tm ps ∧ MT a.tP lamPos lamQ H6 ∧ SqL K H6 sa (ns.map V.int)) ⟨⟨_, _, _, _, _, _, rfl⟩, hb8, mt8, hS8⟩ ?_ (fun σ H3 _ => q H3)
    clear hb8 mt8 hS8
    rintro i σ H6 hi ⟨⟨v3, v4, v5, v6, v7, v8, rfl⟩, hb6, mt6, hS6⟩
    have i60 : i < 900 := by
      rw [List.length_map] at hi
      revert hi
      split <;> (try split) <;> intro h <;> omega
    refine ⟨_, rfl, _, rfl, sa, ns, 1 + i, by simp, hS6, by omega, fun p3 H7 hp3 pu3 s7 => ?_⟩
    have hb7 := hb6.same s7
    have mt7 := L2.MT.same mt6 s7
    refine ⟨_, rfl, b, _, _, _, rfl, rfl, SqT.of hb7.book, rfl, tr, _, rfl, .inr (SqT.of hb7.rooms), fun l1 hl1 => ?_⟩
    have s8 := same_new (o := HO.lst (rooms.map V.int)) hl1
    have np1 : l1 ≠ p3 := pu3.ne hl1
    have k1 : upd H7 l1 (HO.lst (rooms.map V.int)) l1 = some (.lst (rooms.map V.int)) := upd_same
    have hb8 := hb7.same s8
    have pu8 := pu3.same s8
    have s78 := s7.trans s8
    generalize upd H7 l1 (HO.lst (rooms.map V.int)) = H8 at s8 k1 hb8 pu8 s78 ⊢
    refine ⟨_, rfl, b, _, _, _, rfl, rfl, SqT.of hb8.book, rfl, tm, _, rfl, .inr (SqT.of hb8.meets), fun l2 hl2 => ?_⟩
    have s9 := same_new (o := HO.lst (ps.map fun a => V.ref a.1)) hl2
    have np2 : l2 ≠ p3 := pu8.ne hl2
    have k2 : upd H8 l2 (HO.lst (ps.map fun a => V.ref a.1)) l2 = some (.lst (ps.map fun a => V.ref a.1)) := upd_same
    have hb9 := hb8.same s9
    have pu9 := pu8.same s9
    have k1 := s9 _ _ k1
    have s79 := s78.trans s9
    generalize upd H8 l2 (HO.lst (ps.map fun a => V.ref a.1)) = H9 at k1 k2 hb9 pu9 s79 ⊢
    have mt9 := L2.MT.same mt6 s79
    clear hb8 pu8 s78 s9 s8 hb7 mt7 hl1 hl2
    refine ⟨_, rfl, p3, _, rfl, by decide, by decide, pu9, fun wh HA w0 w1 gA => ?_⟩
    have RA : ∀ {H' : Hp}, Go p3 H9 H' → RoomsAt H' l1 rooms := fun g => ⟨g.1 _ _ np1 k1, rm1, rm2, rm9⟩
    have LA : ∀ {H' : Hp}, Go p3 H9 H' → ListAt H' l2 ps := fun g => ⟨g.1 _ _ np2 k2, fun x hx => g.tups pu9 _ _ (hb9.rows x hx)⟩
    have DOr : ∀ {H' : Hp}, Go p3 H9 H' → DO (hid p3 H') 2 1000 (.ref l1) := fun {H'} g => (DO.lst (k := 0) (n := 30) (m := 12) (vs := rooms.map V.int) (by rw [hid_ne np1]; exact (RA g).1) (fun x hx => by
      obtain ⟨j, hj, rfl⟩ := List.mem_map.mp hx
      have := rm9 j hj
      exact DO.small (by omega)) (by rw [List.length_map]; omega)).mono (by decide) (by decide)
    have DOm : ∀ {H' : Hp}, Go p3 H9 H' → DO (hid p3 H') 3 70000 (.ref l2) := fun {H'} g => rows_do g.2 np2 (LA g) (by omega) (by omega) raw.each
    refine ⟨_, rfl, _, _, rfl, rfl, _, rfl, iteN (fun σ H' => ∃ m, σ = [some (.ref sa), some (.ref b), some (.ref lm), some (.int (1 + (i : Int))), some (.ref p3), some (.ref l1), some m, some (.int wh), v8] ∧ Go p3 H9 H' ∧ DO (hid p3 H') 3 70000 m ∧ shortV H' m ∧ (2 ≤ wh → BadM3 rooms.length H' m)) ?_ ?_ ?_⟩
    rotate_left
    · intro c k
      refine ⟨_, rfl, _, rfl, _, rfl, l1, _, rfl, .inl (SqL.of (RA gA).1), p3, l2, _, ps, rfl, gA.2, np2, LA gA, p1, p58, by rw [List.length_map]; exact raw.each, by rw [List.length_map]; omega, by rw [List.length_map]; omega, fun m HB gB dm sh bad => k _ _ ⟨m, rfl, gA.trans gB, dm, sh, fun _ => ?_⟩⟩
      rw [List.length_map] at bad; exact bad
    · intro c
      refine ⟨_, rfl, gA, DOm gA, fun p' xs' e e' => (by cases e; rw [(LA gA).1] at e'; cases e'; rw [List.length_map]; omega), fun h2 => ?_⟩
      have := of_decide_eq_false c
      omega
    clear gA HA
    rintro _ HA ⟨m, rfl, gA, dm, shm, bad⟩
    refine ⟨_, rfl, _, _, rfl, rfl, _, rfl, iteN (fun σ H' => ∃ r, σ = [some (.ref sa), some (.ref b), some (.ref lm), some (.int (1 + (i : Int))), some (.ref p3), some r, some m, some (.int wh), v8] ∧ Go p3 H9 H' ∧ DO (hid p3 H') 3 70000 m ∧ DO (hid p3 H') 2 1000 r ∧ Ref3 H' r m) ?_ ?_ ?_⟩
    rotate_left
    · intro c k
      refine ⟨_, rfl, _, rfl, p3, l1, rooms, rfl, gA.2, np1, RA gA, fun r HB gB dr sh no => k _ _ ⟨r, rfl, gA.trans gB, dm.same (hid_go gB.1), dr, .inl ⟨?_, sh, no⟩⟩⟩
      obtain ⟨d, hd, _⟩ := dr.out
      exact ⟨d, hd⟩
    · intro c
      have c2 : 2 ≤ wh := by have := of_decide_eq_false c; omega
      refine ⟨_, rfl, gA, dm, DOr gA, .inr ⟨l1, rooms, rfl, RA gA, ?_⟩⟩
      rcases bad c2 with bd | ⟨pm, fs, e, rest⟩
      · obtain ⟨d, hd, _⟩ := dm.out
        exact .inl ⟨⟨d, hd⟩, shm, bd⟩
      · exact .inr ⟨pm, fs, e, rest⟩
    clear gA dm shm bad HA
    rintro _ HA ⟨r, rfl, gA, dm, dr, rf⟩
    obtain ⟨d1, a1, o1⟩ := dr.out
    obtain ⟨d2, a2, o2⟩ := dm.out
    obtain ⟨sh, dp, sz⟩ := ok_two o1 o2 (by decide)
    refine ⟨_, rfl, _, rfl, by show 2 ≤ _; omega, fun t1 ht1 => ⟨t1, [d1, d2], rfl, .tup upd_same (.cons (a1.same (same_new ht1)) (.cons (a2.same (same_new ht1)) .nil)), sh, dp, sz, ?_⟩⟩
    have s1 := same_new (o := HO.tup [r, m]) ht1
    have hbA := (hb9.tups (gA.tups pu9)).same s1
    have mtA := L2.MT.same (L2.MT.go mt9 pu9 gA) s1
    have hSA := s1.seq (SqL_but3 hS6 hp3 (s79.seq hS6) gA.1)
    have rfA := rf.same s1
    have a1 := a1.same s1
    have a2 := a2.same s1
    generalize upd HA t1 (HO.tup [r, m]) = HC at hbA mtA hSA rfA a1 a2 ⊢
    clear rf dm dr gA s1 ht1 DOr DOm RA LA k1 k2 hb9 pu9 s79 mt9 hb6 mt6
    refine ⟨_, rfl, _, rfl, .inr ⟨r, m, rfl, rfA, fun l3 HD sD kD => ⟨by show 4 ≤ _; omega, fun l4 hl4 => eq_flat3 (bls (bs := [true, true, false, false])) (same_new hl4 _ _ kD) upd_same ⟨_, rfl, iteB0 rfl ?_⟩⟩⟩⟩
    have s2 := sD.trans (same_new (o := HO.lst [V.bl true, V.bl true, V.bl false, V.bl false]) hl4)
    have hbE := hbA.same s2
    have mtE := L2.MT.same mtA s2
    have hSE := s2.seq hSA
    have a1 := a1.same s2
    have a2 := a2.same s2
    generalize upd HD l4 (HO.lst [V.bl true, V.bl true, V.bl false, V.bl false]) = HE at hbE mtE hSE a1 a2 ⊢
    clear hbA mtA hSA rfA s2 sD kD hl4
    refine ⟨_, rfl, _, rfl, by show 2 ≤ _; omega, fun t2 ht2 => ⟨t2, [d1, d2], rfl, .tup upd_same (.cons (a1.same (same_new ht2)) (.cons (a2.same (same_new ht2)) .nil)), sh, dp, sz, _, rfl, rfl, _, rfl, iteB0 (by simp) ?_⟩⟩
    have s3 := same_new (o := HO.tup [r, m]) ht2
    have hbF := hbE.same s3
    have mtF := L2.MT.same mtE s3
    have hSF := s3.seq hSE
    generalize upd HE t2 (HO.tup [r, m]) = HF at hbF mtF hSF ⊢
    clear hbE mtE hSE a1 a2 s3 ht2
    refine ⟨_, rfl, b, _, _, _, rfl, rfl, SqT.of hbF.book, rfl, tr, _, rfl, .inr (SqT.of hbF.rooms), fun l5 hl5 => ?_⟩
    have s4 := same_new (o := HO.lst (rooms.map V.int)) hl5
    have hbG := hbF.same s4
    have k5 : upd HF l5 (HO.lst (rooms.map V.int)) l5 = some (.lst (rooms.map V.int)) := upd_same
    generalize upd HF l5 (HO.lst (rooms.map V.int)) = HG at s4 hbG k5 ⊢
    refine ⟨_, rfl, b, _, _, _, rfl, rfl, SqT.of hbG.book, rfl, tm, _, rfl, .inr (SqT.of hbG.meets), fun l6 hl6 => ?_⟩
    have s5 := same_new (o := HO.lst (ps.map fun a => V.ref a.1)) hl6
    have s45 := s4.trans s5
    have hbI := hbG.same s5
    have mtI := L2.MT.same mtF s45
    have hSI := s45.seq hSF
    refine .inl ⟨l5, l6, rooms, ps, rfl, ⟨s5 _ _ k5, rm1, rm2, rm9⟩, ⟨upd_same, hbI.rows⟩, raw, mtI, fun l7 HJ bJ mtJ kJ nJ => ⟨Nat.zero_le _, fun l8 hl8 => eq_flat3 (xs := []) nofun (same_new hl8 _ _ kJ) upd_same ⟨_, rfl, iteB0 rfl ⟨⟨_, _, _, _, _, _, rfl⟩, ?_, L2.MT.same mtJ (same_new hl8), ?_⟩⟩⟩⟩
    · exact (hbI.tups (MT.tups' mtI bJ)).same (same_new hl8)
    · exact (same_new hl8).seq (MT.seq mtI bJ hSI)
end
theorem all_mk {l : PySem.W.OpenLaw} {w : World} {K : PySem.W.Frag} {h : Heap} {mg : Str → Option Value} {fa f__law_purse f__law_take f__law_rooms f__law_step f__law_meetings f__law_book f_is_whole f_is_within f_are_rooms f_is_meeting f_meets_twice_at_once f_lesser_first f_made_book f__law_bad_rooms f__law_bad_meeting f__law_bad_rows f__law_marks f_law tC tP c_HasIt c_MeetError c_NoBook c_NoClaim c_NoDay c_NoDeed c_NoLetter c_NoMeeting c_NoName c_NoPass c_NoRoom c_NoRow c_NoRule c_NoText c_NoWalker c_NotThere c_TooMany c_Twice : Addr} (X : K.In h) (G : h.Ns mainGlobals mg) (hfa : mg "law" = some (.ref fa))
    {d__law_purse d__law_take d__law_rooms d__law_step d__law_meetings d__law_book d_is_whole d_is_within d_are_rooms d_is_meeting d_meets_twice_at_once d_lesser_first d_made_book d__law_bad_rooms d__law_bad_meeting d__law_bad_rows d__law_marks d_law : FuncData} {t_LAST_TIME : Tok} {t_MOST_WALKERS : Tok} {t_MOST_ROOM : Tok} {t_MOST_MEETINGS : Tok} {t_MOST_MANY : Tok}
    (a__law_purse : PySem.W.nsIn K mainGlobals "_law_purse" = some (some (.ref f__law_purse))) (F__law_purse : Fun K "_law_purse" "_law_purse" s__law_purse f__law_purse d__law_purse)
    (a__law_take : PySem.W.nsIn K mainGlobals "_law_take" = some (some (.ref f__law_take))) (F__law_take : Fun K "_law_take" "_law_take" s__law_take f__law_take d__law_take)
    (a__law_rooms : PySem.W.nsIn K mainGlobals "_law_rooms" = some (some (.ref f__law_rooms))) (F__law_rooms : Fun K "_law_rooms" "_law_rooms" s__law_rooms f__law_rooms d__law_rooms)
    (a__law_step : PySem.W.nsIn K mainGlobals "_law_step" = some (some (.ref f__law_step))) (F__law_step : Fun K "_law_step" "_law_step" s__law_step f__law_step d__law_step)
    (a__law_meetings : PySem.W.nsIn K mainGlobals "_law_meetings" = some (some (.ref f__law_meetings))) (F__law_meetings : Fun K "_law_meetings" "_law_meetings" s__law_meetings f__law_meetings d__law_meetings)
    (a__law_book : PySem.W.nsIn K mainGlobals "_law_book" = some (some (.ref f__law_book))) (F__law_book : Fun K "_law_book" "_law_book" s__law_book f__law_book d__law_book)
    (a_is_whole : PySem.W.nsIn K mainGlobals "is_whole" = some (some (.ref f_is_whole))) (F_is_whole : Fun K "is_whole" "is_whole" s_is_whole f_is_whole d_is_whole)
    (a_is_within : PySem.W.nsIn K mainGlobals "is_within" = some (some (.ref f_is_within))) (F_is_within : Fun K "is_within" "is_within" s_is_within f_is_within d_is_within)
    (a_are_rooms : PySem.W.nsIn K mainGlobals "are_rooms" = some (some (.ref f_are_rooms))) (F_are_rooms : Fun K "are_rooms" "are_rooms" s_are_rooms f_are_rooms d_are_rooms)
    (a_is_meeting : PySem.W.nsIn K mainGlobals "is_meeting" = some (some (.ref f_is_meeting))) (F_is_meeting : Fun K "is_meeting" "is_meeting" s_is_meeting f_is_meeting d_is_meeting)
    (a_meets_twice_at_once : PySem.W.nsIn K mainGlobals "meets_twice_at_once" = some (some (.ref f_meets_twice_at_once))) (F_meets_twice_at_once : Fun K "meets_twice_at_once" "meets_twice_at_once" s_meets_twice_at_once f_meets_twice_at_once d_meets_twice_at_once)
    (a_lesser_first : PySem.W.nsIn K mainGlobals "lesser_first" = some (some (.ref f_lesser_first))) (F_lesser_first : Fun K "lesser_first" "lesser_first" s_lesser_first f_lesser_first d_lesser_first)
    (a_made_book : PySem.W.nsIn K mainGlobals "made_book" = some (some (.ref f_made_book))) (F_made_book : Fun K "made_book" "made_book" s_made_book f_made_book d_made_book)
    (a__law_bad_rooms : PySem.W.nsIn K mainGlobals "_law_bad_rooms" = some (some (.ref f__law_bad_rooms))) (F__law_bad_rooms : Fun K "_law_bad_rooms" "_law_bad_rooms" s__law_bad_rooms f__law_bad_rooms d__law_bad_rooms)
    (a__law_bad_meeting : PySem.W.nsIn K mainGlobals "_law_bad_meeting" = some (some (.ref f__law_bad_meeting))) (F__law_bad_meeting : Fun K "_law_bad_meeting" "_law_bad_meeting" s__law_bad_meeting f__law_bad_meeting d__law_bad_meeting)
    (a__law_bad_rows : PySem.W.nsIn K mainGlobals "_law_bad_rows" = some (some (.ref f__law_bad_rows))) (F__law_bad_rows : Fun K "_law_bad_rows" "_law_bad_rows" s__law_bad_rows f__law_bad_rows d__law_bad_rows)
    (a__law_marks : PySem.W.nsIn K mainGlobals "_law_marks" = some (some (.ref f__law_marks))) (F__law_marks : Fun K "_law_marks" "_law_marks" s__law_marks f__law_marks d__law_marks)
    (a_law : PySem.W.nsIn K mainGlobals "law" = some (some (.ref f_law))) (F_law : Fun K "law" "law" s_law f_law d_law)
    (z_ValueError : PySem.W.nsIn K mainGlobals "ValueError" = some none)
    (z_all : PySem.W.nsIn K mainGlobals "all" = some none)
    (z_bool : PySem.W.nsIn K mainGlobals "bool" = some none)
    (z_int : PySem.W.nsIn K mainGlobals "int" = some none)
    (z_isinstance : PySem.W.nsIn K mainGlobals "isinstance" = some none)
    (z_len : PySem.W.nsIn K mainGlobals "len" = some none)
    (z_list : PySem.W.nsIn K mainGlobals "list" = some none)
    (z_max : PySem.W.nsIn K mainGlobals "max" = some none)
    (z_min : PySem.W.nsIn K mainGlobals "min" = some none)
    (z_range : PySem.W.nsIn K mainGlobals "range" = some none)
    (z_repr : PySem.W.nsIn K mainGlobals "repr" = some none)
    (z_set : PySem.W.nsIn K mainGlobals "set" = some none)
    (z_sorted : PySem.W.nsIn K mainGlobals "sorted" = some none)
    (z_tuple : PySem.W.nsIn K mainGlobals "tuple" = some none)
    (g_LAST_TIME : PySem.W.nsIn K mainGlobals "LAST_TIME" = some (some (.int 1000000000 t_LAST_TIME)))
    (g_MOST_WALKERS : PySem.W.nsIn K mainGlobals "MOST_WALKERS" = some (some (.int 12 t_MOST_WALKERS)))
    (g_MOST_ROOM : PySem.W.nsIn K mainGlobals "MOST_ROOM" = some (some (.int 99 t_MOST_ROOM)))
    (g_MOST_MEETINGS : PySem.W.nsIn K mainGlobals "MOST_MEETINGS" = some (some (.int 60 t_MOST_MEETINGS)))
    (g_MOST_MANY : PySem.W.nsIn K mainGlobals "MOST_MANY" = some (some (.int 99 t_MOST_MANY)))
    (e_HasIt : PySem.W.nsIn K mainGlobals "HasIt" = some (some (.ref c_HasIt)))
    (e_MeetError : PySem.W.nsIn K mainGlobals "MeetError" = some (some (.ref c_MeetError)))
    (e_NoBook : PySem.W.nsIn K mainGlobals "NoBook" = some (some (.ref c_NoBook)))
    (e_NoClaim : PySem.W.nsIn K mainGlobals "NoClaim" = some (some (.ref c_NoClaim)))
    (e_NoDay : PySem.W.nsIn K mainGlobals "NoDay" = some (some (.ref c_NoDay)))
    (e_NoDeed : PySem.W.nsIn K mainGlobals "NoDeed" = some (some (.ref c_NoDeed)))
    (e_NoLetter : PySem.W.nsIn K mainGlobals "NoLetter" = some (some (.ref c_NoLetter)))
    (e_NoMeeting : PySem.W.nsIn K mainGlobals "NoMeeting" = some (some (.ref c_NoMeeting)))
    (e_NoName : PySem.W.nsIn K mainGlobals "NoName" = some (some (.ref c_NoName)))
    (e_NoPass : PySem.W.nsIn K mainGlobals "NoPass" = some (some (.ref c_NoPass)))
    (e_NoRoom : PySem.W.nsIn K mainGlobals "NoRoom" = some (some (.ref c_NoRoom)))
    (e_NoRow : PySem.W.nsIn K mainGlobals "NoRow" = some (some (.ref c_NoRow)))
    (e_NoRule : PySem.W.nsIn K mainGlobals "NoRule" = some (some (.ref c_NoRule)))
    (e_NoText : PySem.W.nsIn K mainGlobals "NoText" = some (some (.ref c_NoText)))
    (e_NoWalker : PySem.W.nsIn K mainGlobals "NoWalker" = some (some (.ref c_NoWalker)))
    (e_NotThere : PySem.W.nsIn K mainGlobals "NotThere" = some (some (.ref c_NotThere)))
    (e_TooMany : PySem.W.nsIn K mainGlobals "TooMany" = some (some (.ref c_TooMany)))
    (e_Twice : PySem.W.nsIn K mainGlobals "Twice" = some (some (.ref c_Twice)))
    (xx_NoBook : xclsB K c_NoBook = true)
    (ff_f_em : PySem.W.exmOne K (.ref c_NoBook) (.ref c_MeetError) = some true)
    (ff_f_ve : PySem.W.kitOne K (.ref c_NoBook) (.type "ValueError") = some true)
    (ff_f_ka : PySem.W.kitAny K (.ref c_NoBook) [.ref c_NoMeeting, .ref c_NoDeed, .ref c_NoLetter, .ref c_NoWalker, .ref c_NotThere, .ref c_HasIt, .ref c_NoPass, .ref c_NoRoom] = some false)
    (ff_f_kb : PySem.W.kitAny K (.ref c_NoBook) [.ref c_NoRule, .ref c_TooMany, .ref c_NoDay, .ref c_NoClaim, .ref c_NoText, .ref c_NoRow, .ref c_NoName, .ref c_Twice] = some false)
    (h_cd : d_made_book.code = .ref tC) (h_hd : PySem.W.codeHdIn K tC tP = true) :
    ∃ fd : FuncData, (∃ c, PySem.W.codeHdIn K c tP = true) ∧ (∀ (s : Shared) (v : Value), BindsTo s fd ⟨[v], []⟩ [("_law_script", v)]) ∧ ∀ base : Heap, K.In base → base.Ns mainGlobals mg → BmAt mg base → FnOk l.prog w K mg base CX0 6 fa fd ["_law_script"] (spLawT K tP lamPos) := by
  have e := hfa.symm.trans (PySem.W.mg_of X G a_law)
  cases e
  have b__law_purse := F__law_purse.binds (ps := ["_law_script", "_law_k"]) fun _ _ _ _ _ _ us hl => us2 hl fun _ _ => rfl
  have b__law_take := F__law_take.binds (ps := ["_law_purse_here", "_law_many"]) fun _ _ _ _ _ _ us hl => us2 hl fun _ _ => rfl
  have b__law_rooms := F__law_rooms.binds (ps := ["_law_purse_here", "_law_walkers"]) fun _ _ _ _ _ _ us hl => us2 hl fun _ _ => rfl
  have b__law_step := F__law_step.binds (ps := ["_law_purse_here"]) fun _ _ _ _ _ _ us hl => us1 hl fun _ => rfl
  have b__law_meetings := F__law_meetings.binds (ps := ["_law_purse_here", "_law_walkers", "_law_most"]) fun _ _ _ _ _ _ us hl => us3 hl fun _ _ _ => rfl
  have b__law_book := F__law_book.binds (ps := ["_law_purse_here", "_law_most_walkers", "_law_most_meetings"]) fun _ _ _ _ _ _ us hl => us3 hl fun _ _ _ => rfl
  have b_is_whole := F_is_whole.binds (ps := ["thing"]) fun _ _ _ _ _ _ us hl => us1 hl fun _ => rfl
  have b_is_within := F_is_within.binds (ps := ["thing", "least", "most"]) fun _ _ _ _ _ _ us hl => us3 hl fun _ _ _ => rfl
  have b_are_rooms := F_are_rooms.binds (ps := ["thing"]) fun _ _ _ _ _ _ us hl => us1 hl fun _ => rfl
  have b_is_meeting := F_is_meeting.binds (ps := ["walkers", "thing"]) fun _ _ _ _ _ _ us hl => us2 hl fun _ _ => rfl
  have b_meets_twice_at_once := F_meets_twice_at_once.binds (ps := ["meetings"]) fun _ _ _ _ _ _ us hl => us1 hl fun _ => rfl
  have b_lesser_first := F_lesser_first.binds (ps := ["meeting"]) fun _ _ _ _ _ _ us hl => us1 hl fun _ => rfl
  have b_made_book := F_made_book.binds (ps := ["rooms", "meetings"]) fun _ _ _ _ _ _ us hl => us2 hl fun _ _ => rfl
  have b__law_bad_rooms := F__law_bad_rooms.binds (ps := ["_law_purse_here", "_law_rooms_here"]) fun _ _ _ _ _ _ us hl => us2 hl fun _ _ => rfl
  have b__law_bad_meeting := F__law_bad_meeting.binds (ps := ["_law_purse_here", "_law_meeting", "_law_walkers"]) fun _ _ _ _ _ _ us hl => us3 hl fun _ _ _ => rfl
  have b__law_bad_rows := F__law_bad_rows.binds (ps := ["_law_purse_here", "_law_rows", "_law_walkers"]) fun _ _ _ _ _ _ us hl => us3 hl fun _ _ _ => rfl
  have b__law_marks := F__law_marks.binds (ps := ["_law_rooms_here", "_law_rows"]) fun _ _ _ _ _ _ us hl => us2 hl fun _ _ => rfl
  have b_law := F_law.binds (ps := ["_law_script"]) fun _ _ _ _ _ _ us hl => us1 hl fun _ => rfl
  have T : Tx K mg ⟨f__law_purse, d__law_purse, f__law_take, d__law_take, f__law_rooms, d__law_rooms, f__law_step, d__law_step, f__law_meetings, d__law_meetings, f__law_book, d__law_book, f_is_whole, d_is_whole, f_is_within, d_is_within, f_are_rooms, d_are_rooms, f_is_meeting, d_is_meeting, f_meets_twice_at_once, d_meets_twice_at_once, f_lesser_first, d_lesser_first, f_made_book, d_made_book, f__law_bad_rooms, d__law_bad_rooms, f__law_bad_meeting, d__law_bad_meeting, f__law_bad_rows, d__law_bad_rows, f__law_marks, d__law_marks, fa, d_law, tC, tP, c_HasIt, c_MeetError, c_NoBook, c_NoClaim, c_NoDay, c_NoDeed, c_NoLetter, c_NoMeeting, c_NoName, c_NoPass, c_NoRoom, c_NoRow, c_NoRule, c_NoText, c_NoWalker, c_NotThere, c_TooMany, c_Twice⟩ t_LAST_TIME t_MOST_WALKERS t_MOST_ROOM t_MOST_MEETINGS t_MOST_MANY := ⟨F__law_purse, b__law_purse, PySem.W.mg_of X G a__law_purse, F__law_purse.kp, F__law_take, b__law_take, PySem.W.mg_of X G a__law_take, F__law_take.kp, F__law_rooms, b__law_rooms, PySem.W.mg_of X G a__law_rooms, F__law_rooms.kp, F__law_step, b__law_step, PySem.W.mg_of X G a__law_step, F__law_step.kp, F__law_meetings, b__law_meetings, PySem.W.mg_of X G a__law_meetings, F__law_meetings.kp, F__law_book, b__law_book, PySem.W.mg_of X G a__law_book, F__law_book.kp, F_is_whole, b_is_whole, PySem.W.mg_of X G a_is_whole, F_is_whole.kp, F_is_within, b_is_within, PySem.W.mg_of X G a_is_within, F_is_within.kp, F_are_rooms, b_are_rooms, PySem.W.mg_of X G a_are_rooms, F_are_rooms.kp, F_is_meeting, b_is_meeting, PySem.W.mg_of X G a_is_meeting, F_is_meeting.kp, F_meets_twice_at_once, b_meets_twice_at_once, PySem.W.mg_of X G a_meets_twice_at_once, F_meets_twice_at_once.kp, F_lesser_first, b_lesser_first, PySem.W.mg_of X G a_lesser_first, F_lesser_first.kp, F_made_book, b_made_book, PySem.W.mg_of X G a_made_book, F_made_book.kp, F__law_bad_rooms, b__law_bad_rooms, PySem.W.mg_of X G a__law_bad_rooms, F__law_bad_rooms.kp, F__law_bad_meeting, b__law_bad_meeting, PySem.W.mg_of X G a__law_bad_meeting, F__law_bad_meeting.kp, F__law_bad_rows, b__law_bad_rows, PySem.W.mg_of X G a__law_bad_rows, F__law_bad_rows.kp, F__law_marks, b__law_marks, PySem.W.mg_of X G a__law_marks, F__law_marks.kp, F_law, b_law, PySem.W.mg_of X G a_law, F_law.kp, PySem.W.mg_none_of X G z_ValueError, PySem.W.mg_none_of X G z_all, PySem.W.mg_none_of X G z_bool, PySem.W.mg_none_of X G z_int, PySem.W.mg_none_of X G z_isinstance, PySem.W.mg_none_of X G z_len, PySem.W.mg_none_of X G z_list, PySem.W.mg_none_of X G z_max, PySem.W.mg_none_of X G z_min, PySem.W.mg_none_of X G z_range, PySem.W.mg_none_of X G z_repr, PySem.W.mg_none_of X G z_set, PySem.W.mg_none_of X G z_sorted, PySem.W.mg_none_of X G z_tuple, h_hd, h_cd, PySem.W.mg_of X G e_HasIt, PySem.W.mg_of X G e_MeetError, PySem.W.mg_of X G e_NoBook, PySem.W.mg_of X G e_NoClaim, PySem.W.mg_of X G e_NoDay, PySem.W.mg_of X G e_NoDeed, PySem.W.mg_of X G e_NoLetter, PySem.W.mg_of X G e_NoMeeting, PySem.W.mg_of X G e_NoName, PySem.W.mg_of X G e_NoPass, PySem.W.mg_of X G e_NoRoom, PySem.W.mg_of X G e_NoRow, PySem.W.mg_of X G e_NoRule, PySem.W.mg_of X G e_NoText, PySem.W.mg_of X G e_NoWalker, PySem.W.mg_of X G e_NotThere, PySem.W.mg_of X G e_TooMany, PySem.W.mg_of X G e_Twice, XCls.of xx_NoBook, ff_f_em, ff_f_ve, ff_f_ka, ff_f_kb, PySem.W.mg_of X G g_LAST_TIME, PySem.W.mg_of X G g_MOST_WALKERS, PySem.W.mg_of X G g_MOST_ROOM, PySem.W.mg_of X G g_MOST_MEETINGS, PySem.W.mg_of X G g_MOST_MANY⟩
  obtain ⟨_, _, _, _, _, _, _, _, _, rfl, _, _⟩ := F_law.ex
  exact ⟨_, ⟨tC, h_hd⟩, fun s v => .of_eq rfl, fun base _ _ B => ok_law T B⟩
theorem walk {l : PySem.W.OpenLaw} {q : Program} {loose : List Str} {XP : (Str → Option Value) → Heap → Prop} {YP : World → Heap → Prop} {d : DefRec} {K : Params → PySem.W.Frag} {T : Addr} (hn : l.most = some 63) (hdf : d.params.defaults = [])
    (hY : ∀ (w : World) (h : Heap), YP w h → (K w.params).In h ∧ h.get? T = some (PySem.W.tabObj #[])) (nt : ∀ w : World, PySem.W.noTabs (K w.params) = true)
    (F : ∀ (w : World) (mg : Str → Option Value) (fa : Addr) (h : Heap), (K w.params).In h → h.Ns mainGlobals mg → mg d.name = some (.ref fa) →
      ∃ fd : FuncData, (∃ c, PySem.W.codeHdIn (K w.params) c T = true) ∧ (∀ (s : Shared) (u : Value), BindsTo s fd ⟨[u], []⟩ [("_law_script", u)]) ∧ ∀ base : Heap, (K w.params).In base → base.Ns mainGlobals mg → BmAt mg base → FnOk l.prog w (K w.params) mg base CX0 6 fa fd ["_law_script"] (spLawT (K w.params) T lamPos)) :
    PySem.W.WalkO q loose XP YP l.row.toRowW d [] (fun f vs => PySem.call f vs) :=
  L2.walk_ofT (n := 63) (k := 6) (x := "_law_script") (CX := fun _ => CX0) (sp := fun w => spLawT (K w.params) T lamPos) hn (by decide) hdf ⟨rfl, by decide, by decide, rfl⟩ hY nt F (fun _ _ a ns hl hT hS => ⟨a, ns, rfl, hS, hl, .inl hT, fun _ => rfl⟩) fun _ _ _ _ _ z => z
end Sm
namespace PySem.W.Fast
def tw9228248502693103069 : Nat := 0
def tw6742236401760919294 : Nat := 0
def tw5914376869911794978 : Nat := 0
def tw15785510139205987003 : Nat := 0
def tw1784937506933902883 : Nat := 0
def tw605683473749697287 : Nat := 0
def tw13171953186912311112 : Nat := 0
def tw10314892801896334421 : Nat := 0
def tw4736811608365032015 : Nat := 0
def tw12053058557715592634 : Nat := 0
def tw3702685426813816559 : Nat := 0
def tw16639682667623286253 : Nat := 0
def tw16987707516204764983 : Nat := 0
def tw12121967686178532880 : Nat := 0
def tw3048202433825307282 : Nat := 0
def tw5024548480854021032 : Nat := 0
def tw6204103435899488089 : Nat := 0
def tw15988014157930214264 : Nat := 0
def tw10928647329586089516 : Nat := 0
def tw12259065476042967918 : Nat := 0
def tw11098500438469890524 : Nat := 0
def tw8440345443644912160 : Nat := 0
def tw14167989407317379900 : Nat := 0
def tw3079254173410151784 : Nat := 0
def tw15300579057270938014 : Nat := 0
def tw15096927122259407193 : Nat := 0
def tw10446457145018916707 : Nat := 0
def tw9458646680859832615 : Nat := 0
def tw13713914981420776127 : Nat := 0
def tw5786706586408692624 : Nat := 0
def tw4546845266776541930 : Nat := 0
def tw11191130070845029539 : Nat := 0
def tw8255714891152626871 : Nat := 0
def tw3684296453478071492 : Nat := 0
def tw7685346612004795306 : Nat := 0
def tw230784479168714419 : Nat := 0
def tw13444564965994762059 : Nat := 0
def tw3976908581541860078 : Nat := 0
def tw8374260603297507413 : Nat := 0
def tw8012817848377690687 : Nat := 0
def tw18367524227429177777 : Nat := 0
def tw1493563655478135682 : Nat := 0
def tw3085415470622591152 : Nat := 0
def tw17162055623496659094 : Nat := 0
def tw14384483733374611218 : Nat := 0
def tw14926724833905008209 : Nat := 0
def tw571538093095653313 : Nat := 0
def tw9299839618697419238 : Nat := 0
def tw9672806409005220698 : Nat := 0
def tw3627241380627448203 : Nat := 0
def tw12488941673865475805 : Nat := 0
def tw11152214159668693067 : Nat := 0
def tw1526867812753573397 : Nat := 0
def tw17815728462411103272 : Nat := 0
def tw4983886186432702709 : Nat := 0
def tw7677132297694459280 : Nat := 0
def tw6812697969545404519 : Nat := 0
def tw6675126035599081505 : Nat := 0
def tw5745270818236239152 : Nat := 0
def tw7396909032595093975 : Nat := 0
def tw617434708634872347 : Nat := 0
def tw12891366199081544757 : Nat := 0
def tw11666042806651988927 : Nat := 0
def tw12650481097702719751 : Nat := 0
def tw4655064602830306058 : Nat := 0
def tw2713689587630035093 : Nat := 0
def tw4615613705130626996 : Nat := 0
def tw17110205054838314383 : Nat := 0
def tw15634837655344368557 : Nat := 0
def tw12073647939821395921 : Nat := 0
def tw1985319759907435222 : Nat := 0
def tw8833416504333575582 : Nat := 0
def tw117015543097222481 : Nat := 0
def tw11702883466505950473 : Nat := 0
def tw14603296319020055974 : Nat := 0
def tw8561161522651674110 : Nat := 0
def tw14277914172084348149 : Nat := 0
def tw11372466735736822605 : Nat := 0
def tw14729835032987407217 : Nat := 0
def tw6729873638505422990 : Nat := 0
def tw4838866285433457637 : Nat := 0
def tw7154843931940258249 : Nat := 0
def tw8364139703737587218 : Nat := 0
def tw15555643831602148104 : Nat := 0
def tw8369365061206839110 : Nat := 0
def tw1267459830245161290 : Nat := 0
def tw438665145822568376 : Nat := 0
def tw4781834023644688383 : Nat := 0
def tw9449999381661255431 : Nat := 0
def tw3221070169124842827 : Nat := 0
def tw3246146867146967281 : Nat := 0
def tw10865295843507120101 : Nat := 0
def tw9820343031306538525 : Nat := 0
def tw13616503912962761345 : Nat := 0
def tw625076004808955417 : Nat := 0
def tw5315781032394059598 : Nat := 0
def tw17387987866095953595 : Nat := 0
def tw3198853789379920834 : Nat := 0
def tw2216887105327753042 : Nat := 0
def tw5977882606674905758 : Nat := 0
def tw1980917529427754468 : Nat := 0
def tw13090455273112522695 : Nat := 0
def tw9497659409891695447 : Nat := 0
def tw16877230934988094871 : Nat := 0
def tw10663508730331908674 : Nat := 0
def tw71991714025964491 : Nat := 0
def tw8354799314934105295 : Nat := 0
def tw2017229229340656791 : Nat := 0
def tw4510995267780684782 : Nat := 0
def tw14768230196115719144 : Nat := 0
def tw345705642996881556 : Nat := 0
def tw1029175573884109855 : Nat := 0
def tw16607694908394155893 : Nat := 0
def tw16878696965992006401 : Nat := 0
def tw2966786898360706789 : Nat := 0
def tw4347373344799249249 : Nat := 0
def tw17113162026395425533 : Nat := 0
def tw1323563902118699186 : Nat := 0
def tw15906941167240456631 : Nat := 0
def tw16300415083866101733 : Nat := 0
def tw13248609787691204228 : Nat := 0
def tw12092920617429075258 : Nat := 0
def tw4202611871392764614 : Nat := 0
def tw15678109572773649160 : Nat := 0
def tw2312566386735939596 : Nat := 0
def tw1479394406627590336 : Nat := 0
def tw5790782963617068997 : Nat := 0
def tw582769073154767094 : Nat := 0
def tw5483439995097922094 : Nat := 0
def tw15927811440679711703 : Nat := 0
def tw15879212946767932607 : Nat := 0
def tw11404814510678435512 : Nat := 0
def tw14872836711718241119 : Nat := 0
def tw2551922600985833937 : Nat := 0
def tw4633130380763736718 : Nat := 0
def tw15579442695694282223 : Nat := 0
def tw1976884658438166033 : Nat := 0
def tw15310935238365213554 : Nat := 0
def tw15231537888036178848 : Nat := 0
def tw9544840863418423148 : Nat := 0
def tw7696708108338471763 : Nat := 0
def tw12445000247160218145 : Nat := 0
def tw7619794933125212883 : Nat := 0
def tw12656800881082338621 : Nat := 0
def tw1074538112078137059 : Nat := 0
def tw18163410327149180204 : Nat := 0
def tw16746572400791341627 : Nat := 0
def tw194991253793484497 : Nat := 0
def tw12877030578383284650 : Nat := 0
def tw8213129289585090657 : Nat := 0
def tw8618064715154470247 : Nat := 0
def tw16290442015935764808 : Nat := 0
def tw18380091192697011031 : Nat := 0
def tw16707007660232460913 : Nat := 0
def tw9116459089868003990 : Nat := 0
def tw11688512624323027731 : Nat := 0
def tw3414782116553179928 : Nat := 0
def tw10096908691259477000 : Nat := 0
def tw2294447910455147616 : Nat := 0
def tw3011346974737308823 : Nat := 0
def tw9450649479558628610 : Nat := 0
def tw1356656995828335709 : Nat := 0
def tw3122746842807401769 : Nat := 0
def tw4469664442610194348 : Nat := 0
def tw2575306764409354860 : Nat := 0
def tw11947895499820942922 : Nat := 0
def tw12121421080839824933 : Nat := 0
def tw10473505304339513962 : Nat := 0
def tw237675015883163317 : Nat := 0
def tw6669910706274401448 : Nat := 0
def tw5484374729639955028 : Nat := 0
def tw9792259087084410674 : Nat := 0
def tw16586774943461735797 : Nat := 0
def tw3830015553151565323 : Nat := 0
end PySem.W.Fast
open PySem PySem.W PyProof.Rows
set_option maxRecDepth 100000 in
set_option maxHeartbeats 0 in
theorem PySem.Challenge.cw_satchelmeet_k03_books_refused_holds : PySem.Challenge.rw_satchelmeet_k03_books_refused.Holds := by
  w_on; o_law; k_head; (case hw => w_witness2)
  k_fill
  refine Sm.walk (l := PySem.Challenge.rw_satchelmeet_k03_books_refused) rfl rfl (fun w h Y => ⟨PySem.W.km_in_of Y, PySem.W.km_tabs_of Y _ (List.Mem.head _)⟩) (fun w => by kernel_rfl) ?F
  case F =>
    intro w mg fa h KX G hmg
    refine' Sm.all_mk KX G hmg ?a__law_purse ?F__law_purse ?a__law_take ?F__law_take ?a__law_rooms ?F__law_rooms ?a__law_step ?F__law_step ?a__law_meetings ?F__law_meetings ?a__law_book ?F__law_book ?a_is_whole ?F_is_whole ?a_is_within ?F_is_within ?a_are_rooms ?F_are_rooms ?a_is_meeting ?F_is_meeting ?a_meets_twice_at_once ?F_meets_twice_at_once ?a_lesser_first ?F_lesser_first ?a_made_book ?F_made_book ?a__law_bad_rooms ?F__law_bad_rooms ?a__law_bad_meeting ?F__law_bad_meeting ?a__law_bad_rows ?F__law_bad_rows ?a__law_marks ?F__law_marks ?a_law ?F_law ?z_ValueError ?z_all ?z_bool ?z_int ?z_isinstance ?z_len ?z_list ?z_max ?z_min ?z_range ?z_repr ?z_set ?z_sorted ?z_tuple ?g_LAST_TIME ?g_MOST_WALKERS ?g_MOST_ROOM ?g_MOST_MEETINGS ?g_MOST_MANY ?e_HasIt ?e_MeetError ?e_NoBook ?e_NoClaim ?e_NoDay ?e_NoDeed ?e_NoLetter ?e_NoMeeting ?e_NoName ?e_NoPass ?e_NoRoom ?e_NoRow ?e_NoRule ?e_NoText ?e_NoWalker ?e_NotThere ?e_TooMany ?e_Twice ?xx_NoBook ?ff_f_em ?ff_f_ve ?ff_f_ka ?ff_f_kb ?h_cd ?h_hd
    (case e_HasIt => k_is)
    (case e_MeetError => k_is)
    (case e_NoBook => k_is)
    (case e_NoClaim => k_is)
    (case e_NoDay => k_is)
    (case e_NoDeed => k_is)
    (case e_NoLetter => k_is)
    (case e_NoMeeting => k_is)
    (case e_NoName => k_is)
    (case e_NoPass => k_is)
    (case e_NoRoom => k_is)
    (case e_NoRow => k_is)
    (case e_NoRule => k_is)
    (case e_NoText => k_is)
    (case e_NoWalker => k_is)
    (case e_NotThere => k_is)
    (case e_TooMany => k_is)
    (case e_Twice => k_is)
    (case a__law_purse => k_is)
    (case F__law_purse => refine' L2.fun_mk ?x1 ?y1 ?z1; (case x1 => k_is); (case y1 => k_is); (case z1 => k_is))
    (case a__law_take => k_is)
    (case F__law_take => refine' L2.fun_mk ?x3 ?y3 ?z3; (case x3 => k_is); (case y3 => k_is); (case z3 => k_is))
    (case a__law_rooms => k_is)
    (case F__law_rooms => refine' L2.fun_mk ?x5 ?y5 ?z5; (case x5 => k_is); (case y5 => k_is); (case z5 => k_is))
    (case a__law_step => k_is)
    (case F__law_step => refine' L2.fun_mk ?x7 ?y7 ?z7; (case x7 => k_is); (case y7 => k_is); (case z7 => k_is))
    (case a__law_meetings => k_is)
    (case F__law_meetings => refine' L2.fun_mk ?x9 ?y9 ?z9; (case x9 => k_is); (case y9 => k_is); (case z9 => k_is))
    (case a__law_book => k_is)
    (case F__law_book => refine' L2.fun_mk ?x11 ?y11 ?z11; (case x11 => k_is); (case y11 => k_is); (case z11 => k_is))
    (case a_is_whole => k_is)
    (case F_is_whole => refine' L2.fun_mk ?x13 ?y13 ?z13; (case x13 => k_is); (case y13 => k_is); (case z13 => k_is))
    (case a_is_within => k_is)
    (case F_is_within => refine' L2.fun_mk ?x15 ?y15 ?z15; (case x15 => k_is); (case y15 => k_is); (case z15 => k_is))
    (case a_are_rooms => k_is)
    (case F_are_rooms => refine' L2.fun_mk ?x17 ?y17 ?z17; (case x17 => k_is); (case y17 => k_is); (case z17 => k_is))
    (case a_is_meeting => k_is)
    (case F_is_meeting => refine' L2.fun_mk ?x19 ?y19 ?z19; (case x19 => k_is); (case y19 => k_is); (case z19 => k_is))
    (case a_meets_twice_at_once => k_is)
    (case F_meets_twice_at_once => refine' L2.fun_mk ?x21 ?y21 ?z21; (case x21 => k_is); (case y21 => k_is); (case z21 => k_is))
    (case a_lesser_first => k_is)
    (case F_lesser_first => refine' L2.fun_mk ?x23 ?y23 ?z23; (case x23 => k_is); (case y23 => k_is); (case z23 => k_is))
    (case a_made_book => k_is)
    (case F_made_book => refine' L2.fun_mk ?x25 ?y25 ?z25; (case x25 => k_is); (case y25 => k_is); (case z25 => k_is))
    (case a__law_bad_rooms => k_is)
    (case F__law_bad_rooms => refine' L2.fun_mk ?x27 ?y27 ?z27; (case x27 => k_is); (case y27 => k_is); (case z27 => k_is))
    (case a__law_bad_meeting => k_is)
    (case F__law_bad_meeting => refine' L2.fun_mk ?x29 ?y29 ?z29; (case x29 => k_is); (case y29 => k_is); (case z29 => k_is))
    (case a__law_bad_rows => k_is)
    (case F__law_bad_rows => refine' L2.fun_mk ?x31 ?y31 ?z31; (case x31 => k_is); (case y31 => k_is); (case z31 => k_is))
    (case a__law_marks => k_is)
    (case F__law_marks => refine' L2.fun_mk ?x33 ?y33 ?z33; (case x33 => k_is); (case y33 => k_is); (case z33 => k_is))
    (case a_law => k_is)
    (case F_law => refine' L2.fun_mk ?x35 ?y35 ?z35; (case x35 => k_is); (case y35 => k_is); (case z35 => k_is))
    (case z_ValueError => k_is)
    (case z_all => k_is)
    (case z_bool => k_is)
    (case z_int => k_is)
    (case z_isinstance => k_is)
    (case z_len => k_is)
    (case z_list => k_is)
    (case z_max => k_is)
    (case z_min => k_is)
    (case z_range => k_is)
    (case z_repr => k_is)
    (case z_set => k_is)
    (case z_sorted => k_is)
    (case z_tuple => k_is)
    (case g_LAST_TIME => k_is)
    (case g_MOST_WALKERS => k_is)
    (case g_MOST_ROOM => k_is)
    (case g_MOST_MEETINGS => k_is)
    (case g_MOST_MANY => k_is)
    (case xx_NoBook => kernel_rfl)
    (case ff_f_em => kernel_rfl)
    (case ff_f_ve => kernel_rfl)
    (case ff_f_ka => kernel_rfl)
    (case ff_f_kb => kernel_rfl)
    (case h_cd => rfl)
    (case h_hd => kernel_rfl)

