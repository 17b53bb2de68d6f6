import PyProof.Rows.All
import Wide.All
import OpenK.AllK
import Wide.FinOn
import Lean
import PyProof.EqAt
import PyProof.EqKinds
import PyProof.TupleCall
import KE.KDictOf
import PyProof.AttrMissHeap
import PyProof.StrWalks
import PyProof.StrBlockI
import PyProof.FString5
import PyProof.SetRoads
import PyProof.SetNew
import PyProof.TupleKey
import PyProof.InstEq
import PySem.SetOps
import KE.KTryMore
import PyProof.NsDelKeeps
import KE.KIsAll
import KE.KItemsList
import KE.KSortTup
import KE.KDictSum
import KE.KLam
import KE.KNestM
import KE.KSortTup
import PySem.Challenge.RW_satchelmeet_k35_whole_no_more_can_be_sen
set_option Elab.async false
set_option linter.all false
set_option maxRecDepth 100000
namespace L2
open PySem PySem.Spec PyProof.Rows
abbrev Key := Sum Int Str
def keyIs : Key → Value → Bool
  | .inl k, v => Value.isInt k v
  | .inr x, v => Value.isStrOf x v
def keyH (w : World) : Key → Int
  | .inl k => hashInt k
  | .inr x => hashStr w x
theorem keyIs_shape : ∀ {k : Key} {v : Value}, keyIs k v = true → (∃ i t, k = Sum.inl i ∧ v = Value.int i t) ∨ (∃ x t, k = Sum.inr x ∧ v = Value.str x t)
  | .inl i, v, h => by
    obtain ⟨t, e⟩ := Value.isInt_shape (k := i) (v := v) h
    exact .inl ⟨i, t, rfl, e⟩
  | .inr x, v, h => by
    obtain ⟨t, e⟩ := Value.isStrOf_shape (x := x) (v := v) h
    exact .inr ⟨x, t, rfl, e⟩
theorem keyIs_int (i : Int) (t : Tok) : keyIs (.inl i) (.int i t) = true := by simp [keyIs, Value.isInt]
theorem keyIs_str (x : Str) (t : Tok) : keyIs (.inr x) (.str x t) = true := by simp [keyIs, Value.isStrOf]
theorem key_ll (a b : Int) : decide ((Sum.inl a : Key) = Sum.inl b) = (a == b) := by
  by_cases e : a = b
  · subst e; simp
  · have h : ¬ (Sum.inl a : Key) = Sum.inl b := fun q => e (Sum.inl.inj q)
    rw [decide_eq_false h]
    exact (beq_eq_false_iff_ne.mpr e).symm
theorem key_rr (a b : Str) : decide ((Sum.inr a : Key) = Sum.inr b) = decide (a = b) := by
  by_cases e : a = b
  · subst e; simp
  · have h : ¬ (Sum.inr a : Key) = Sum.inr b := fun q => e (Sum.inr.inj q)
    rw [decide_eq_false h, decide_eq_false e]
theorem key_lr (a : Int) (b : Str) : decide ((Sum.inl a : Key) = Sum.inr b) = false := decide_eq_false (fun q => nomatch q)
theorem key_rl (a : Str) (b : Int) : decide ((Sum.inr a : Key) = Sum.inl b) = false := decide_eq_false (fun q => nomatch q)
def mixKind (prog : Program) (w : World) : PySem.KeyKind prog w Key where
  is := keyIs
  hash := keyH w
  inj := fun v a b ha hb => by
    rcases keyIs_shape ha with ⟨i, t, rfl, rfl⟩ | ⟨x, t, rfl, rfl⟩
    · rcases keyIs_shape hb with ⟨j, u, rfl, e⟩ | ⟨y, u, rfl, e⟩
      · injection e with e1 _; rw [e1]
      · exact nomatch e
    · rcases keyIs_shape hb with ⟨j, u, rfl, e⟩ | ⟨y, u, rfl, e⟩
      · exact nomatch e
      · injection e with e1 _; rw [e1]
  byValue := fun k v h => by
    rcases keyIs_shape h with ⟨i, t, rfl, rfl⟩ | ⟨x, t, rfl, rfl⟩ <;> rfl
  pyHash := fun hv h => by
    rcases keyIs_shape hv with ⟨i, t, rfl, rfl⟩ | ⟨x, t, rfl, rfl⟩
    · exact wpAny_pyHash_int h
    · exact wpAny_pyHash_str h
  eqBool := fun hu hv h => by
    rcases keyIs_shape hu with ⟨i, t, rfl, rfl⟩ | ⟨x, t, rfl, rfl⟩
    · rcases keyIs_shape hv with ⟨j, u, rfl, rfl⟩ | ⟨y, u, rfl, rfl⟩
      · rw [key_ll] at h; exact wpAny_eqBool_int h
      · rw [key_lr] at h; exact SeqAt.EqAt.int_str i t y u _ _ _ _ h
    · rcases keyIs_shape hv with ⟨j, u, rfl, rfl⟩ | ⟨y, u, rfl, rfl⟩
      · rw [key_rl] at h; exact SeqAt.EqAt.str_int x t j u _ _ _ _ h
      · rw [key_rr] at h; exact wpAny_eqBool_str h
  «strs» := fun k x t v h => by
    rcases keyIs_shape h with ⟨i, u, rfl, e⟩ | ⟨y, u, rfl, e⟩
    · exact nomatch e
    · injection e with e1 _
      subst e1
      cases v <;> rfl
theorem mixKind_int (prog : Program) (w : World) (i : Int) (t : Tok) : (mixKind prog w).is (.inl i) (.int i t) = true := keyIs_int i t
theorem mixKind_str (prog : Program) (w : World) (x : Str) (t : Tok) : (mixKind prog w).is (.inr x) (.str x t) = true := keyIs_str x t
end L2
namespace L2
open PySem PySem.Spec PyProof.Rows
inductive V where
  | non | bl (b : Bool) | int (i : Int) | str (x : Str) | byt (b : Array UInt8) | flt (b : UInt64) | ref (a : Addr) | ty (n : String)
  deriving DecidableEq
def RelV : V → Value → Prop
  | .non, u => u = Value.none
  | .bl b, u => u = Value.bool b
  | .int i, u => ∃ t, u = Value.int i t
  | .str x, u => ∃ t, u = Value.str x t
  | .byt b, u => ∃ t, u = Value.bytes b t
  | .flt b, u => ∃ t, u = Value.float b t
  | .ref a, u => u = Value.ref a
  | .ty n, u => u = Value.type n
abbrev Vals : List V → List Value → Prop := Paired RelV
theorem Vals.length {xs : List V} {us : List Value} (r : Vals xs us) : xs.length = us.length := Paired.length r
theorem Vals.get : ∀ {xs : List V} {us : List Value} {i : Nat} {x : V}, Vals xs us → xs[i]? = some x → ∃ u, us[i]? = some u ∧ RelV x u
  | _, _, _, _, .nil, e => by simp at e
  | _, _, 0, _, .cons r _, e => by simp at e; subst e; exact ⟨_, rfl, r⟩
  | _, _, i + 1, x, .cons _ t, e => by
    obtain ⟨u, h1, h2⟩ := Vals.get (i := i) (x := x) t (by simpa using e)
    exact ⟨u, by simpa using h1, h2⟩
theorem Vals.set {x : V} {u : Value} (r : RelV x u) : ∀ {xs : List V} {us : List Value} (i : Nat), Vals xs us → Vals (xs.set i x) (us.set i u)
  | _, _, _, .nil => .nil
  | _, _, 0, .cons _ t => .cons r t
  | _, _, i + 1, .cons q t => .cons q (Vals.set r i t)
theorem Vals.append : ∀ {xs ys : List V} {us ws : List Value}, Vals xs us → Vals ys ws → Vals (xs ++ ys) (us ++ ws)
  | _, _, _, _, .nil, s => s
  | _, _, _, _, .cons r t, s => .cons r (Vals.append t s)
def RelO : Option V → Option Value → Prop
  | some v, some u => RelV v u
  | none, none => True
  | _, _ => False
def KV {κ : Type} : List (κ × V) → List (κ × Value) → Prop := Paired fun (p : κ × V) (q : κ × Value) => p.1 = q.1 ∧ RelV p.2 q.2
def kV : Key → V
  | .inl i => .int i
  | .inr x => .str x
inductive HO where
    | lst (xs : List V)
    | tup (xs : List V)
    | dK (kvs : List (Key × V)) | dT (kvs : List (List Key × V))
    | set (S : Int → Bool) (n : Nat)
    | ins (C dx : Addr) (fs : List (Str × V))
    | own (x : Addr)
    | xd (fs : List (Str × V))
    | met (f x : Addr)
    | rng (lo hi : Int)
    | frz (o : Obj) (u : HO)
    | tbl (ps : Array Value)
    | ext (φ : Heap → Prop)
abbrev Hp := Addr → Option HO
def upd (H : Hp) (a : Addr) (o : HO) : Hp := fun b => if b = a then some o else H b
theorem upd_same {H : Hp} {a : Addr} {o : HO} : upd H a o a = some o := by unfold upd; rw [if_pos rfl]
theorem upd_ne {H : Hp} {a b : Addr} {o : HO} (h : b ≠ a) : upd H a o b = H b := by unfold upd; rw [if_neg h]
theorem ne_of {H : Hp} {a b : Addr} {o u : HO} (h : H a = some o) (h' : H b = some u) (d : o ≠ u) : a ≠ b := by
  intro e; subst e; rw [h] at h'; exact d (Option.some.inj h')
theorem ne_of_none {H : Hp} {a b : Addr} {o : HO} (h : H a = some o) (h' : H b = none) : a ≠ b := by
  intro e; subst e; rw [h] at h'; cases h'
theorem new_bare {h : Heap} {o : Obj} (hf : o.isFreed = false := by rfl) (hd : o.dict = none := by rfl) : ∀ ob, (h.push o).get? h.objs.size = some ob → ob.dict = none := fun ob e => by
  rw [Heap.get?_push_size h hf] at e; cases e; exact hd
section
variable (P : Program) (w : World)
def ObjOk (H : Hp) (h : Heap) (a : Addr) : HO → Prop
  | .lst xs => xs.length ≤ sizeLine ∧ ∃ (its : List Value) (n : Nat), Vals xs its ∧ h.get? a = some { cls := .type "list", data := .seq its.toArray n }
  | .tup xs => (xs.length ≤ sizeLine ∧ ∀ ob, h.get? a = some ob → ob.dict = none) ∧ ∃ its : List Value, Vals xs its ∧ IsTup h a its.toArray
  | .dK kvs => kvs.length ≤ sizeLine ∧ (a == sysModules) = false ∧ ∃ vs, KV kvs vs ∧ h.DictOf (mixKind P w) a vs
  | .dT kvs => kvs.length ≤ sizeLine ∧ (a == sysModules) = false ∧ ∃ xs : List (List Key × Addr × Value),
      Paired (fun (p : List Key × V) (q : List Key × Addr × Value) => p.1 = q.1 ∧ H q.2.1 = some (.tup (p.1.map kV)) ∧ RelV p.2 q.2.2) kvs xs ∧
      ∃ o es ep, h.get? a = some o ∧ o.ExactDict ∧ o.data = .dict es ep ∧ es.toList = xs.map (entryOfKey (tupleKind (mixKind P w))) ∧ (xs.map (·.1)).Nodup
  | .set S n => h.SetOf (intKind P w) a S n
  | .ins C dx fs => H dx = some (.own a) ∧ fs.length ≤ 1000 ∧ dx ≠ a ∧ h.get? a = some (PySem.W.instObj C dx) ∧
      ∃ mA, h.Ns1 dx mA ∧ (∀ f, RelO (fs.lookup f) (mA f)) ∧ PySem.Within mA (fs.map (·.1))
  | .own _ => ∃ o, h.get? a = some o
  | .xd fs => ∃ mA, h.Ns1 a mA ∧ ∀ f, RelO (fs.lookup f) (mA f)
  | .rng lo hi => ∃ t u v, h.get? a = some { cls := .type "range", data := .fields #[.int lo t, .int hi u, .int 1 v] }
  | .frz o u => h.get? a = some o ∧ ObjOk H h a u
  | .tbl ps => h.get? a = some { cls := .none, data := .fields ps }
  | .met f x => h.get? a = some (PySem.W.methodObj (.ref f) (.ref x))
  | .ext φ => φ h ∧ (∃ o, h.get? a = some o) ∧ ∀ h1 h2 : Heap, φ h1 → (∀ o, h1.get? a = some o → h2.get? a = some o) → φ h2
def HOk (H : Hp) (h : Heap) : Prop := ∀ a o, H a = some o → ObjOk P w H h a o
end
section
variable {P : Program} {w : World} {H H' : Hp} {h h' : Heap} {a : Addr} {o : HO}
theorem ObjOk.lt (x : ObjOk P w H h a o) : a < h.objs.size := by
  cases o with
  | lst xs => obtain ⟨_, _, _, _, e⟩ := x; exact Heap.lt_size e
  | tup xs => obtain ⟨_, _, _, p⟩ := x; exact p.lt
  | dK kvs => obtain ⟨_, _, _, _, o, _, _, e, _⟩ := x; exact Heap.lt_size e
  | dT kvs => obtain ⟨_, _, _, _, o, _, _, e, _⟩ := x; exact Heap.lt_size e
  | set S n => obtain ⟨o, _, _, _, e, _⟩ := x; exact Heap.lt_size e
  | ins C dx fs => obtain ⟨_, _, _, e, _⟩ := x; exact Heap.lt_size e
  | own y => obtain ⟨_, e⟩ := x; exact Heap.lt_size e
  | xd fs => obtain ⟨_, ⟨_, _, _, e, _⟩, _⟩ := x; exact Heap.lt_size e
  | rng lo hi => obtain ⟨_, _, _, e⟩ := x; exact Heap.lt_size e
  | frz ob u => obtain ⟨e, _⟩ := x; exact Heap.lt_size e
  | tbl ps => exact Heap.lt_size (show h.get? a = some _ from x)
  | met f y => exact Heap.lt_size (show h.get? a = some _ from x)
  | ext φ => obtain ⟨_, ⟨_, e⟩, _⟩ := x; exact Heap.lt_size e
theorem Paired.mapP {α β : Type} {F G : α → β → Prop} : ∀ {l₁ : List α} {l₂ : List β}, Paired F l₁ l₂ → (∀ a b, F a b → G a b) → Paired G l₁ l₂
  | _, _, .nil, _ => .nil
  | _, _, .cons r t, f => .cons (f _ _ r) (Paired.mapP t f)
theorem ObjOk.stay (x : ObjOk P w H h a o) (k : ∀ b u, (b = a ∨ H b = some (.own a)) → h.get? b = some u → h'.get? b = some u)
    (ho : ∀ b, H b = some (.own a) → H' b = some (.own a)) (ht : ∀ b xs, H b = some (.tup xs) → H' b = some (.tup xs)) : ObjOk P w H' h' a o := by
  induction o with
  | lst xs => obtain ⟨z, its, n, r, e⟩ := x; exact ⟨z, its, n, r, k _ _ (.inl rfl) e⟩
  | tup xs => obtain ⟨z, its, r, ob, e, c⟩ := x; exact ⟨⟨z.1, fun ob' e' => by rw [k _ _ (.inl rfl) e] at e'; cases e'; exact z.2 _ e⟩, its, r, ob, k _ _ (.inl rfl) e, c⟩
  | dK kvs => obtain ⟨z, y, vs, r, ob, es, ep, e, c⟩ := x; exact ⟨z, y, vs, r, ob, es, ep, k _ _ (.inl rfl) e, c⟩
  | dT kvs =>
    obtain ⟨z, y, xs, r, ob, es, ep, e, c⟩ := x
    exact ⟨z, y, xs, Paired.mapP r fun p q z => ⟨z.1, ht _ _ z.2.1, z.2.2⟩, ob, es, ep, k _ _ (.inl rfl) e, c⟩
  | set S n => obtain ⟨ob, es, ep, t, e, c⟩ := x; exact ⟨ob, es, ep, t, k _ _ (.inl rfl) e, c⟩
  | ins C dx fs =>
    obtain ⟨d, z, ne, e, mA, ⟨od, es, ep, e2, c⟩, r⟩ := x
    exact ⟨ho _ d, z, ne, k _ _ (.inl rfl) e, mA, ⟨od, es, ep, k _ _ (.inr d) e2, c⟩, r⟩
  | own y => obtain ⟨ob, e⟩ := x; exact ⟨ob, k _ _ (.inl rfl) e⟩
  | xd fs => obtain ⟨mA, ⟨od, es, ep, e, c⟩, r⟩ := x; exact ⟨mA, ⟨od, es, ep, k _ _ (.inl rfl) e, c⟩, r⟩
  | rng lo hi => obtain ⟨t, u, v, e⟩ := x; exact ⟨t, u, v, k _ _ (.inl rfl) e⟩
  | frz ob u ih => obtain ⟨e, q⟩ := x; exact ⟨k _ _ (.inl rfl) e, ih q⟩
  | tbl ps =>
    have e : h.get? a = some { cls := .none, data := .fields ps } := x
    show h'.get? a = some { cls := .none, data := .fields ps }
    exact k a _ (.inl rfl) e
  | met f y =>
    have e : h.get? a = some (PySem.W.methodObj (.ref f) (.ref y)) := x
    show h'.get? a = some (PySem.W.methodObj (.ref f) (.ref y))
    exact k a _ (.inl rfl) e
  | ext φ => obtain ⟨p, ⟨o, e⟩, st⟩ := x; exact ⟨st _ _ p fun o q => k _ _ (.inl rfl) q, ⟨o, k _ _ (.inl rfl) e⟩, st⟩
theorem HOk.lt (x : HOk P w H h) (e : H a = some o) : a < h.objs.size := (x a o e).lt
theorem HOk.fresh (x : HOk P w H h) (e : h.objs.size ≤ a) : H a = none := by
  cases q : H a with
  | none => rfl
  | some u => exact absurd (Nat.lt_of_lt_of_le (x.lt q) e) (Nat.lt_irrefl _)
theorem HOk.kept (x : HOk P w H h) (k : ∀ b u, h.get? b = some u → h'.get? b = some u) : HOk P w H h' := fun a o e =>
  (x a o e).stay (fun b u _ q => k b u q) (fun _ q => q) fun _ _ q => q
theorem HOk.laid (x : HOk P w H h) (k : ∀ b u, h.get? b = some u → h'.get? b = some u) (hp : h.objs.size ≤ a) (new : ObjOk P w (upd H a o) h' a o) : HOk P w (upd H a o) h' := fun b u e => by
  have hn := x.fresh hp
  by_cases hb : b = a
  · subst hb; rw [upd_same] at e; cases e; exact new
  · rw [upd_ne hb] at e
    exact (x b u e).stay (fun c v _ q => k c v q) (fun c q => by rw [upd_ne (ne_of_none q hn)]; exact q) fun c xs q => by rw [upd_ne (ne_of_none q hn)]; exact q
end
def Rd (H : Hp) (a : Addr) (u : HO) : Prop := H a = some u ∨ ∃ o, H a = some (.frz o u)
theorem Rd.ok {P : Program} {w : World} {H : Hp} {h : Heap} {a : Addr} {u : HO} (r : Rd H a u) (x : HOk P w H h) : ObjOk P w H h a u := by
  rcases r with r | ⟨o, r⟩
  · exact x a u r
  · obtain ⟨_, q⟩ := x a _ r
    exact q
def Mut : Option HO → Prop
  | some (.lst _) => True
  | some (.dK _) => True
  | some (.dT _) => True
  | some (.set _ _) => True
  | some (.ins _ _ _) => True
  | some (.ext _) => True
  | _ => False
section
variable {P : Program} {w : World} {H : Hp} {h h' : Heap} {x e : Addr} {o' : HO}
theorem HOk.write (ok : HOk P w H h) (mu : Mut (H x)) (he : e = x ∨ H e = some (.own x)) (k : ∀ b u, b ≠ e → h.get? b = some u → h'.get? b = some u) (heo : ∃ u, h'.get? e = some u)
    (new : ObjOk P w (upd H x o') h' x o') : HOk P w (upd H x o') h' := fun b u q => by
  have nown : ∀ c y, H c = some (.own y) → c ≠ x := fun c y r z => by subst z; rw [r] at mu; exact mu
  have ntup : ∀ c xs, H c = some (.tup xs) → c ≠ x := fun c xs r z => by subst z; rw [r] at mu; exact mu
  by_cases hb : b = x
  · subst hb; rw [upd_same] at q; cases q; exact new
  · rw [upd_ne hb] at q
    by_cases hbe : b = e
    · have q' : H b = some (.own x) := by
        rcases he with z | z
        · exact absurd (hbe.trans z) hb
        · rw [hbe]; exact z
      rw [q] at q'; cases q'
      obtain ⟨v, hv⟩ := heo
      exact ⟨v, by rw [hbe]; exact hv⟩
    · refine (ok b u q).stay (fun c v hc r => k c v ?_ r) (fun c r => by rw [upd_ne (nown c b r)]; exact r) fun c xs r => by rw [upd_ne (ntup c xs r)]; exact r
      rcases hc with rfl | hc
      · exact hbe
      · rintro rfl
        rcases he with z | z
        · exact nown c b hc z
        · rw [hc] at z; cases z; exact hb rfl
end
structure Un (fs ex : List Addr) (H H' : Hp) (h h' : Heap) : Prop where
  keep : ∀ b o, h.get? b = some o → H b = none → b ∉ fs → b ∉ ex → h'.get? b = some o
  slot : ∀ b o, h.get? b = some o → H b = none → b ∈ fs → b ∉ ex → ∃ sl, h'.get? b = some { o with slots := sl }
  free : ∀ b o, h.get? b = some o → H b = none → b ∉ ex → H' b = none
  there : ∀ b o, h.get? b = some o → b ∉ ex → ∃ o', h'.get? b = some o'
  tups : ∀ b xs, H b = some (.tup xs) → H' b = some (.tup xs)
  frzs : ∀ b o u, H b = some (.frz o u) → H' b = some (.frz o u)
  tbls : ∀ b ps, H b = some (.tbl ps) → ∃ more, H' b = some (.tbl (ps ++ more))
section
variable {fs fs' ex ex' : List Addr} {H H1 H2 : Hp} {h h1 h2 h' : Heap} {a x e : Addr} {o : HO}
theorem Un.any (u : Un fs ex H H1 h h1) {b : Addr} {ob : Obj} (q : h.get? b = some ob) (n : H b = none) (hx : b ∉ ex) : ∃ sl, h1.get? b = some { ob with slots := sl } := by
  by_cases hb : b ∈ fs
  · exact u.slot b ob q n hb hx
  · exact ⟨ob.slots, u.keep b ob q n hb hx⟩
theorem Un.kept (k : ∀ b u, h.get? b = some u → h'.get? b = some u) : Un fs ex H H h h' :=
  ⟨fun b ob q _ _ _ => k b ob q, fun b ob q _ _ _ => ⟨ob.slots, k b ob q⟩, fun _ _ _ n _ => n, fun b ob q _ => ⟨ob, k b ob q⟩, fun _ _ q => q, fun _ _ _ q => q, fun _ ps q => ⟨#[], by rw [q]; simp⟩⟩
theorem Un.refl : Un fs ex H H h h := Un.kept fun _ _ q => q
theorem Un.laid (k : ∀ b u, h.get? b = some u → h'.get? b = some u) (hp : h.objs.size ≤ a) (hn : H a = none) : Un fs ex H (upd H a o) h h' where
  keep := fun b u q _ _ _ => k b u q
  slot := fun b u q _ _ _ => ⟨u.slots, k b u q⟩
  free := fun b u q n _ => by rw [upd_ne (Nat.ne_of_lt (Nat.lt_of_lt_of_le (Heap.lt_size q) hp))]; exact n
  there := fun b u q _ => ⟨u, k b u q⟩
  tups := fun b xs q => by rw [upd_ne (ne_of_none q hn)]; exact q
  frzs := fun b u xs q => by rw [upd_ne (ne_of_none q hn)]; exact q
  tbls := fun b ps q => ⟨#[], by rw [upd_ne (ne_of_none q hn), q]; simp⟩
theorem Un.write (mu : Mut (H x)) (he : e = x ∨ H e = some (.own x)) (k : ∀ b u, b ≠ e → h.get? b = some u → h'.get? b = some u) (heo : ∃ u, h'.get? e = some u) : Un fs ex H (upd H x o) h h' := by
  have hx : ∀ b, H b = none → b ≠ x := fun b n z => by subst z; rw [n] at mu; exact mu
  have hb : ∀ b, H b = none → b ≠ e := fun b n z => by
    subst z
    rcases he with r | r
    · exact hx b n r
    · rw [n] at r; cases r
  have hm : ∀ b u, H b = some u → ¬ Mut (some u) → b ≠ x := fun b u q nm z => by subst z; rw [q] at mu; exact nm mu
  refine ⟨fun b u q n _ _ => k b u (hb b n) q, fun b u q n _ _ => ⟨u.slots, k b u (hb b n) q⟩, fun b u q n _ => by rw [upd_ne (hx b n)]; exact n, fun b u q _ => ?_,
    fun b xs q => by rw [upd_ne (hm b _ q fun z => z)]; exact q, fun b u xs q => by rw [upd_ne (hm b _ q fun z => z)]; exact q, fun b ps q => ⟨#[], by rw [upd_ne (hm b _ q fun z => z), q]; simp⟩⟩
  by_cases hbe : b = e
  · subst hbe; exact heo
  · exact ⟨u, k b u hbe q⟩
end
def trk (h : Heap) (H : Hp) : List Addr := (List.range h.objs.size).filter fun a => (H a).isSome
def hidT (h : Heap) (H : Hp) : Heap := PySem.W.hideAll h (trk h H)
theorem hidT_size (h : Heap) (H : Hp) : (hidT h H).objs.size = h.objs.size := PySem.W.hideAll_size _ _
theorem hidT_get {h : Heap} {H : Hp} {b : Addr} {o : Obj} (e : h.get? b = some o) (n : H b = none) : (hidT h H).get? b = some o :=
  PySem.W.hideAll_get _ e fun hm => by
    have q : (H b).isSome = true := (List.mem_filter.mp hm).2
    rw [n] at q; simp at q
theorem of_hidT {h : Heap} {H : Hp} {b : Addr} {o : Obj} (e : (hidT h H).get? b = some o) : h.get? b = some o ∧ H b = none := by
  have e' : h.get? b = some o := PySem.W.of_hideAll (trk h H) e
  refine ⟨e', ?_⟩
  cases q : H b with
  | none => rfl
  | some x =>
    have hm : b ∈ trk h H := List.mem_filter.mpr ⟨List.mem_range.mpr (Heap.lt_size e'), by simp [q]⟩
    have z : (hidT h H).get? b = none := PySem.W.hideAll_none (trk h H) hm
    rw [z] at e; cases e
def allNews (g h : Heap) (L : Addr) : List (Addr × Obj) := (List.range h.objs.size).filterMap fun a => if a = L ∨ (g.get? a).isSome = true then none else (h.get? a).map fun o => (a, o)
theorem mem_allNews {g h : Heap} {L a : Addr} {o : Obj} (h1 : a ≠ L) (h2 : g.get? a = none) (h3 : h.get? a = some o) : (a, o) ∈ allNews g h L :=
  List.mem_filterMap.mpr ⟨a, List.mem_range.mpr (Heap.lt_size h3), by simp [h1, h2, h3]⟩
theorem of_mem_allNews {g h : Heap} {L : Addr} {p : Addr × Obj} (hp : p ∈ allNews g h L) : p.1 ≠ L ∧ g.get? p.1 = none ∧ h.get? p.1 = some p.2 := by
  obtain ⟨b, _, e⟩ := List.mem_filterMap.mp hp
  split at e
  · cases e
  · rename_i hn
    cases q : h.get? b with
    | none => rw [q] at e; simp at e
    | some u =>
      rw [q] at e
      simp only [Option.map_some, Option.some.injEq] at e
      subst e
      refine ⟨fun z => hn (.inl z), ?_, q⟩
      show g.get? b = none
      cases r : g.get? b with
      | none => rfl
      | some v => exact (hn (.inr (by simp [r]))).elim
theorem news_all {g h : Heap} {L : Addr} : News g L h (allNews g h L) := fun p hp => let ⟨a, b, c⟩ := of_mem_allNews hp; ⟨c, a, b⟩
end L2
namespace L2
open PySem PySem.Spec PyProof.Rows
structure Mod (K : PySem.W.Frag) (mg : Str → Option Value) (base : Heap) : Prop where
  kin : K.In base
  glob : base.Ns mainGlobals mg
  blt : ∃ mb, base.Ns builtinsNs mb ∧ ∀ x : Str, x ≠ "__name__" → mb x = bootBuiltins x
  nolimit : base.NoLimit
structure Cx where
  prog : Program
  w : World
  K : PySem.W.Frag
  mg : Str → Option Value
  base : Heap
  A : Around
  N : List Str
  s₀ : Shared
  H₀ : Hp
  env : Env
  outer : List Env
  stack : List Env
  ex : List Addr
  fn : Str → Bool
  calm : Bool
  pn : List (Addr × Obj)
  xe : Value → Shared → Prop
def frs (l : List Env) : List Addr := l.filterMap (·.frame)
abbrev Cx.fs (X : Cx) : List Addr := frs X.outer
def Vis (sc : Scope) (x : Str) : Prop := sc.names.lookup x = some .local ∨ sc.names.lookup x = some .cell ∨ sc.names.lookup x = some .free
def Loc (sc : Scope) (x : Str) : Prop := sc.names.lookup x = some .local ∨ sc.names.lookup x = some .cell
def Look (env : Env) (h : Heap) (m : Str → Option Value) (x : Str) (u : Value) : Prop :=
  (env.kindOf x = some .local ∧ m x = some u) ∨ ((env.kindOf x = some .cell ∨ env.kindOf x = some .free) ∧ ∃ c, env.cells.lookup x = some c ∧ h.IsCell c (some u))
structure Cx.Ok (X : Cx) : Prop where
  mod : Mod X.K X.mg X.base
  kind : X.env.scope.kind = .function
  glob : X.env.globals = mainGlobals
  blt : X.env.builtins = builtinsNs
  above : X.s₀.heap.objs.size ≤ X.env.locals
  inj : ∀ x y c, X.env.cells.lookup x = some c → X.env.cells.lookup y = some c → x = y
  has : ∀ x, (X.env.kindOf x = some .cell ∨ X.env.kindOf x = some .free) → ∃ c, X.env.cells.lookup x = some c
  cab : ∀ x c, X.fn x = true → X.env.cells.lookup x = some c → X.s₀.heap.objs.size ≤ c
  hd : X.calm = true → X.A.handled = none
  frames : X.A.frames = some X.stack
  stk : X.stack = X.outer ∨ (X.stack = X.env :: X.outer ∧ X.env.frame = some X.env.locals)
  exf : ∀ b ∈ X.ex, b ≠ X.env.locals ∧ ∀ x c, X.env.cells.lookup x = some c → c ≠ b
  bs : ∀ b o, X.base.get? b = some o → X.s₀.heap.get? b = some o ∧ X.H₀ b = none
  bsz : X.base.objs.size ≤ X.s₀.heap.objs.size
  noex : ∀ b o, X.base.get? b = some o → b ∉ X.ex
  exfs : ∀ b ∈ X.ex, b ∉ X.fs
  funs : X.s₀.heap.FunFrames X.base X.outer
  frf : ∀ b ∈ X.fs, X.H₀ b = none
structure Inv (X : Cx) (pins : List (Addr × Obj)) (σ : List (Option V)) (H : Hp) (s : Shared) : Prop where
  ok : X.Ok
  os : s.os = X.s₀.os
  bare : AllBare s.gens
  base : Un X.fs X.ex X.H₀ H X.s₀.heap s.heap
  loc : ∃ m, s.heap.Ns X.env.locals m ∧ ∀ (i : Nat) (x : Str) (v : V), X.N[i]? = some x → σ[i]? = some (some v) → Vis X.env.scope x → ∃ u, RelV v u ∧ Look X.env s.heap m x u
  cell : ∀ x c, X.env.cells.lookup x = some c → ∃ v, s.heap.IsCell c v
  free : H X.env.locals = none
  freeC : ∀ x c, X.env.cells.lookup x = some c → H c = none
  pin : ∀ p ∈ X.pn ++ pins, s.heap.get? p.1 = some p.2 ∧ H p.1 = none ∧ p.1 ≠ X.env.locals ∧ p.1 ∉ X.fs ∧ ∀ v, p.2.data ≠ .cell v
  hok : HOk X.prog X.w H s.heap
  len : σ.length = X.N.length
section
variable {X : Cx} {pins : List (Addr × Obj)} {σ : List (Option V)} {H H' : Hp} {s : Shared} {h' : Heap}
theorem Cx.Ok.nofr (ok : X.Ok) {b : Addr} {o : Obj} (e : X.base.get? b = some o) : b ∉ X.fs := fun hb => by
  have := (ok.funs.mem hb).1
  rw [e] at this; cases this
theorem Inv.bs (I : Inv X pins σ H s) : ∀ b o, X.base.get? b = some o → s.heap.get? b = some o ∧ H b = none := fun b o e =>
  ⟨I.base.keep b o (I.ok.bs b o e).1 (I.ok.bs b o e).2 (I.ok.nofr e) (I.ok.noex b o e), I.base.free b o (I.ok.bs b o e).1 (I.ok.bs b o e).2 (I.ok.noex b o e)⟩
theorem Inv.bk (I : Inv X pins σ H s) : ∀ b o, X.base.get? b = some o → s.heap.get? b = some o := fun b o e => (I.bs b o e).1
theorem Inv.mod (I : Inv X pins σ H s) : Mod X.K X.mg X.base := I.ok.mod
theorem Inv.kIn (I : Inv X pins σ H s) : X.K.In s.heap := I.ok.mod.kin.keeps I.bk
theorem Inv.fr (I : Inv X pins σ H s) : ∃ m, Fr X.base X.env.locals s.heap m :=
  let ⟨m, hn, _⟩ := I.loc
  ⟨m, hn, I.bk, Nat.le_trans I.ok.bsz I.ok.above⟩
theorem Inv.lt (I : Inv X pins σ H s) : X.env.locals < s.heap.objs.size := let ⟨_, hn, _⟩ := I.loc; hn.lt
theorem Inv.sz (I : Inv X pins σ H s) : X.s₀.heap.objs.size ≤ s.heap.objs.size := Nat.le_trans I.ok.above (Nat.le_of_lt I.lt)
theorem Inv.nofs (I : Inv X pins σ H s) {a : Addr} (h : s.heap.objs.size ≤ a) : a ∉ X.fs := fun hb => by
  obtain ⟨_, o, ho, _⟩ := I.ok.funs.mem hb
  exact absurd (Nat.lt_of_lt_of_le (Heap.lt_size ho) (Nat.le_trans I.sz h)) (Nat.lt_irrefl _)
theorem Inv.cne (I : Inv X pins σ H s) : ∀ x c, X.env.cells.lookup x = some c → c ≠ X.env.locals := fun x c e z => by
  obtain ⟨v, o, ho, hd⟩ := I.cell x c e
  obtain ⟨m, ⟨o', es, ep, ho', hd', _⟩, _⟩ := I.loc
  rw [z, ho'] at ho; cases ho; rw [hd'] at hd; cases hd
theorem Inv.funs (I : Inv X pins σ H s) : s.heap.FunFrames X.base X.outer := by
  have all : ∀ (l : List Env), (∀ b ∈ frs l, b ∈ X.fs) → X.s₀.heap.FunFrames X.base l → s.heap.FunFrames X.base l := by
    intro l
    induction l with
    | nil => intro _ _; trivial
    | cons env r ih =>
      intro hs hl
      obtain ⟨hk, ⟨L, o, hf, hn, ho, hd⟩, hr⟩ := hl
      have hL : L ∈ X.fs := hs L (by unfold frs; rw [List.filterMap_cons, hf]; exact List.mem_cons_self)
      obtain ⟨sl, e⟩ := I.base.slot L o ho (I.ok.frf L hL) hL fun z => I.ok.exfs L z hL
      exact ⟨hk, ⟨L, _, hf, hn, e, hd⟩, ih (fun b hb => hs b (by unfold frs; rw [List.filterMap_cons, hf]; exact List.mem_cons_of_mem _ hb)) hr⟩
  exact all X.outer (fun _ hb => hb) I.ok.funs
theorem Inv.stack (I : Inv X pins σ H s) : s.heap.FunFrames X.base X.stack := by
  rcases I.ok.stk with e | ⟨e, hf⟩
  · rw [e]; exact I.funs
  · rw [e]
    obtain ⟨m, hn, _⟩ := I.loc
    refine .cons (by rw [I.ok.kind]; decide) hf hn ?_ I.funs
    exact Heap.get?_none_of_le (Nat.le_trans I.ok.bsz I.ok.above)
theorem Inv.stkSub (I : Inv X pins σ H s) : ∀ b ∈ frs X.stack, b ∈ X.env.locals :: X.fs := fun b hb => by
  rcases I.ok.stk with e | ⟨e, hf⟩
  · rw [e] at hb; exact List.mem_cons_of_mem _ hb
  · rw [e] at hb
    unfold frs at hb
    rw [List.filterMap_cons, hf] at hb
    exact hb
theorem Inv.stkFree (I : Inv X pins σ H s) : ∀ b ∈ frs X.stack, H b = none := fun b hb => by
  rcases List.mem_cons.mp (I.stkSub b hb) with e | hb
  · rw [e]; exact I.free
  · obtain ⟨_, o, ho, _⟩ := I.ok.funs.mem hb
    exact I.base.free b o ho (I.ok.frf b hb) fun z => I.ok.exfs b z hb
theorem Inv.step {g' : Array GenState} {t' : Nat} {d' : Drawn} {ch : List Addr} (I : Inv X pins σ H s)
    (hch : ∀ b ∈ ch, (b ∈ X.ex ∨ X.s₀.heap.objs.size ≤ b) ∧ b ≠ X.env.locals ∧ (∀ x c, X.env.cells.lookup x = some c → c ≠ b) ∧ ∀ p ∈ X.pn ++ pins, p.1 ≠ b)
    (keep : ∀ b o, b ≠ X.env.locals → b ∉ X.fs → b ∉ ch → s.heap.get? b = some o → H b = none → h'.get? b = some o)
    (slot : ∀ b o, b ≠ X.env.locals → b ∈ X.fs → b ∉ ch → s.heap.get? b = some o → H b = none → ∃ sl, h'.get? b = some { o with slots := sl }) (free : ∀ b o, b ∉ ch → s.heap.get? b = some o → H b = none → H' b = none)
    (there : ∀ b o, b ∉ ch → s.heap.get? b = some o → ∃ o', h'.get? b = some o')
    (tups : ∀ b xs, H b = some (.tup xs) → H' b = some (.tup xs)) (frzs : ∀ b o u, H b = some (.frz o u) → H' b = some (.frz o u)) (tbls : ∀ b ps, H b = some (.tbl ps) → ∃ more, H' b = some (.tbl (ps ++ more)))
    (ns : ∀ m, s.heap.Ns X.env.locals m → h'.Ns X.env.locals m) (hok : HOk X.prog X.w H' h') (hg : AllBare g') :
    Inv X pins σ H' { s with heap := h', gens := g', drawn := d', toks := t' } := by
  have neL : ∀ b o, X.s₀.heap.get? b = some o → b ≠ X.env.locals := fun b o e => Nat.ne_of_lt (Nat.lt_of_lt_of_le (Heap.lt_size e) I.ok.above)
  have neC : ∀ b o, X.s₀.heap.get? b = some o → b ∉ X.ex → b ∉ ch := fun b o e hx hb => by
    rcases (hch b hb).1 with z | z
    · exact hx z
    · exact absurd (Nat.lt_of_lt_of_le (Heap.lt_size e) z) (Nat.lt_irrefl _)
  have cellK : ∀ x c, X.env.cells.lookup x = some c → ∀ v, s.heap.IsCell c v → h'.IsCell c v := fun x c e v ⟨o, ho, hd⟩ => by
    have nch : c ∉ ch := fun z => (hch c z).2.2.1 x c e rfl
    by_cases hc : c ∈ X.fs
    · obtain ⟨sl, q⟩ := slot c o (I.cne x c e) hc nch ho (I.freeC x c e)
      exact ⟨_, q, hd⟩
    · exact ⟨o, keep c o (I.cne x c e) hc nch ho (I.freeC x c e), hd⟩
  refine ⟨I.ok, I.os, hg, ⟨fun b o e n hb hx => ?_, fun b o e n hb hx => ?_, fun b o e n hx => ?_, fun b o e hx => ?_, fun b xs e => tups b xs (I.base.tups b xs e), fun b o xs e => frzs b o xs (I.base.frzs b o xs e), fun b ps e => ?_⟩, ?_, fun x c e => ?_, ?_, fun x c e => ?_, fun p hp => ?_, hok, I.len⟩
  · exact keep b o (neL b o e) hb (neC b o e hx) (I.base.keep b o e n hb hx) (I.base.free b o e n hx)
  · obtain ⟨sl, e1⟩ := I.base.slot b o e n hb hx
    obtain ⟨sl', e2⟩ := slot b _ (neL b o e) hb (neC b o e hx) e1 (I.base.free b o e n hx)
    exact ⟨sl', e2⟩
  · obtain ⟨o', e1⟩ := I.base.there b o e hx
    exact free b o' (neC b o e hx) e1 (I.base.free b o e n hx)
  · obtain ⟨o', e1⟩ := I.base.there b o e hx
    exact there b o' (neC b o e hx) e1
  · obtain ⟨m1, e1⟩ := I.base.tbls b ps e
    obtain ⟨m2, e2⟩ := tbls b _ e1
    exact ⟨m1 ++ m2, by rw [e2, Array.append_assoc]⟩
  · obtain ⟨m, hn, hl⟩ := I.loc
    refine ⟨m, ns m hn, fun i x v e1 e2 e3 => ?_⟩
    obtain ⟨u, r, l⟩ := hl i x v e1 e2 e3
    refine ⟨u, r, ?_⟩
    rcases l with l | ⟨k, c, e, z⟩
    · exact .inl l
    · exact .inr ⟨k, c, e, cellK x c e _ z⟩
  · obtain ⟨v, z⟩ := I.cell x c e
    exact ⟨v, cellK x c e v z⟩
  · obtain ⟨m, ⟨o, _, _, ho, _⟩, _⟩ := I.loc
    exact free _ o (fun z => (hch _ z).2.1 rfl) ho I.free
  · obtain ⟨v, o, ho, hd⟩ := I.cell x c e
    exact free c o (fun z => (hch c z).2.2.1 x c e rfl) ho (I.freeC x c e)
  · obtain ⟨e, n, ne, nf, d⟩ := I.pin p hp
    have nch : p.1 ∉ ch := fun z => (hch p.1 z).2.2.2 p hp rfl
    exact ⟨keep p.1 p.2 ne nf nch e n, free p.1 p.2 nch e n, ne, nf, d⟩
theorem Inv.un {t' : Nat} (I : Inv X pins σ H s) (u : Un X.fs [] H H' s.heap h') (hok : HOk X.prog X.w H' h') : Inv X pins σ H' { s with heap := h', toks := t' } := by
  obtain ⟨m, ⟨o, es, ep, ho, r⟩, _⟩ := id I.loc
  obtain ⟨sl, hL⟩ := u.any ho I.free (by simp)
  exact I.step (g' := s.gens) (d' := s.drawn) (ch := []) (fun _ z => nomatch z) (fun b o _ hb _ e n => u.keep b o e n hb (by simp)) (fun b o _ hb _ e n => u.slot b o e n hb (by simp)) (fun b o _ e n => u.free b o e n (by simp)) (fun b o _ e => u.there b o e (by simp)) u.tups u.frzs u.tbls (fun m' hm => by
    obtain ⟨o', es', ep', ho', r'⟩ := hm
    rw [ho] at ho'; cases ho'
    exact ⟨_, es', ep', hL, r'⟩) hok I.bare
theorem Inv.call {g' : Array GenState} {t' : Nat} {d' : Drawn} {ch : List Addr} (I : Inv X pins σ H s) (u : Un (frs X.stack) ch H H' s.heap h') (hok : HOk X.prog X.w H' h') (hg : AllBare g')
    (hch : ∀ b ∈ ch, (b ∈ X.ex ∨ X.s₀.heap.objs.size ≤ b) ∧ b ≠ X.env.locals ∧ (∀ x c, X.env.cells.lookup x = some c → c ≠ b) ∧ ∀ p ∈ X.pn ++ pins, p.1 ≠ b) :
    Inv X pins σ H' { s with heap := h', gens := g', drawn := d', toks := t' } := by
  obtain ⟨m, ⟨o, es, ep, ho, r⟩, _⟩ := id I.loc
  obtain ⟨sl, hL⟩ := u.any ho I.free fun z => (hch _ z).2.1 rfl
  exact I.step (ch := ch) hch (fun b o hL hb hc e n => u.keep b o e n (fun z => (List.mem_cons.mp (I.stkSub b z)).elim hL hb) hc) (fun b o _ _ hc e n => u.any e n hc) (fun b o hc e n => u.free b o e n hc) (fun b o hc e => u.there b o e hc) u.tups u.frzs u.tbls (fun m' hm => by
    obtain ⟨o', es', ep', ho', r'⟩ := hm
    rw [ho] at ho'; cases ho'
    exact ⟨_, es', ep', hL, r'⟩) hok hg
theorem Inv.turned {t' : Nat} {it : Addr} (I : Inv X pins σ H s) (k : ∀ b o, b ≠ it → s.heap.get? b = some o → h'.get? b = some o) (hn : H it = none) (hL : it ≠ X.env.locals)
    (h1 : it ∈ X.ex ∨ X.s₀.heap.objs.size ≤ it) (h2 : ∀ x c, X.env.cells.lookup x = some c → c ≠ it) (h3 : ∀ p ∈ X.pn ++ pins, p.1 ≠ it) : Inv X pins σ H { s with heap := h', toks := t' } := by
  have nit : ∀ b u, H b = some u → b ≠ it := fun b u e z => by rw [z, hn] at e; cases e
  refine I.step (g' := s.gens) (d' := s.drawn) (ch := [it]) (fun b hb => ?_) (fun b o _ _ hc e _ => k b o (fun z => hc (by simp [z])) e) (fun b o _ _ hc e _ => ⟨o.slots, k b o (fun z => hc (by simp [z])) e⟩) (fun _ _ _ _ n => n)
    (fun b o hc e => ⟨o, k b o (fun z => hc (by simp [z])) e⟩) (fun _ _ e => e) (fun _ _ _ e => e) (fun b ps e => ⟨#[], by rw [e]; simp⟩) (fun m hm => ?_) (fun b u e => ?_) I.bare
  · have e : b = it := by simpa using hb
    subst e
    exact ⟨h1, hL, h2, h3⟩
  · obtain ⟨o, es, ep, ho, r⟩ := hm
    exact ⟨o, es, ep, k _ o (Ne.symm hL) ho, r⟩
  · refine (I.hok b u e).stay (fun c v hc q => k c v ?_ q) (fun _ q => q) fun _ _ q => q
    rcases hc with z | z
    · rw [z]; exact nit b u e
    · exact nit c _ z
theorem Inv.tok (I : Inv X pins σ H s) (t : Nat) : Inv X pins σ H { s with toks := t } := I.un (h' := s.heap) (t' := t) Un.refl I.hok
theorem Inv.kept {t' : Nat} (I : Inv X pins σ H s) (k : ∀ b u, s.heap.get? b = some u → h'.get? b = some u) : Inv X pins σ H { s with heap := h', toks := t' } := I.un (Un.kept k) (I.hok.kept k)
theorem Inv.laid {a : Addr} {o : HO} {t' : Nat} (I : Inv X pins σ H s) (k : ∀ b u, s.heap.get? b = some u → h'.get? b = some u) (hp : s.heap.objs.size ≤ a) (new : ObjOk X.prog X.w (upd H a o) h' a o) :
    Inv X pins σ (upd H a o) { s with heap := h', toks := t' } := I.un (Un.laid k hp (I.hok.fresh hp)) (I.hok.laid k hp new)
theorem Inv.write {x e : Addr} {o : HO} {t' : Nat} (I : Inv X pins σ H s) (mu : Mut (H x)) (he : e = x ∨ H e = some (.own x)) (k : ∀ b u, b ≠ e → s.heap.get? b = some u → h'.get? b = some u) (heo : ∃ u, h'.get? e = some u)
    (new : ObjOk X.prog X.w (upd H x o) h' x o) : Inv X pins σ (upd H x o) { s with heap := h', toks := t' } := I.un (Un.write mu he k heo) (I.hok.write mu he k heo new)
theorem Inv.pins_of {pins' : List (Addr × Obj)} (I : Inv X pins σ H s) (h : ∀ p ∈ pins', s.heap.get? p.1 = some p.2 ∧ H p.1 = none ∧ p.1 ≠ X.env.locals ∧ p.1 ∉ X.fs ∧ ∀ v, p.2.data ≠ .cell v) : Inv X pins' σ H s :=
  ⟨I.ok, I.os, I.bare, I.base, I.loc, I.cell, I.free, I.freeC, fun p hp => (List.mem_append.mp hp).elim (fun z => I.pin p (List.mem_append_left _ z)) (h p), I.hok, I.len⟩
theorem nodup_ix {N : List Str} (hN : N.Nodup) {i j : Nat} {x : Str} (a : N[i]? = some x) (b : N[j]? = some x) : i = j := by
  obtain ⟨h1, e1⟩ := List.getElem?_eq_some_iff.mp a
  obtain ⟨h2, e2⟩ := List.getElem?_eq_some_iff.mp b
  exact (List.getElem_inj hN).mp (e1.trans e2.symm)
theorem store_ok2 {M : Model} {A : Around} {E : Value → Shared → Prop} {i : Nat} {x : Str} {v : V} {u : Value} {Q : Unit → Shared → Prop} (I : Inv X pins σ H s) (hN : X.N.Nodup) (hi : X.N[i]? = some x) (hx : Loc X.env.scope x) (r : RelV v u)
    (h : ∀ s', Inv X pins (σ.set i (some v)) H s' → (∃ a, Heap.SameBut a s.heap s'.heap ∧ (a = X.env.locals ∨ X.env.cells.lookup x = some a)) → Q () s') (hf : X.fn x = true ∨ X.env.scope.names.lookup x = some .local := by first | exact .inl rfl | exact .inr rfl | assumption) : wpAny M A (storeName X.env x u) Q E s := by
  obtain ⟨m, hn, hl⟩ := id I.loc
  have hcls : (X.env.scope.kind == .class || (X.env.scope.kind == .module && X.env.locals != X.env.globals)) = false := by rw [I.ok.kind]; rfl
  have hiσ : i < σ.length := by rw [I.len]; exact (List.getElem?_eq_some_iff.mp hi).1
  have cne := I.cne
  have tracked : ∀ {a : Addr} {h' : Heap}, (∃ o, s.heap.get? a = some o ∧ H a = none) → Heap.SameBut a s.heap h' → HOk X.prog X.w H h' := fun {a h'} ha hs b ob e => by
    obtain ⟨_, _, hfree⟩ := ha
    refine (I.hok b ob e).stay (fun c w' hc q => (hs.2 c ?_).trans q) (fun _ q => q) fun _ _ q => q
    rintro rfl
    rcases hc with rfl | hc
    · rw [hfree] at e; cases e
    · rw [hfree] at hc; cases hc
  rcases hx with hk | hk
  · refine wpAny_storeName_local hk hn (fun h' hn' hs => ?_) hcls
    obtain ⟨oL, _, _, hoL, _⟩ := id hn
    refine h _ ⟨I.ok, I.os, I.bare, ⟨fun b o e n hb hx => ?_, fun b o e n hb hx => ?_, I.base.free, fun b o e hx => ?_, I.base.tups, I.base.frzs, I.base.tbls⟩, ⟨_, hn', fun j y v' e1 e2 e3 => ?_⟩, fun y c e => ?_, I.free, I.freeC, fun p hp => ?_, tracked ⟨oL, hoL, I.free⟩ hs, by simpa using I.len⟩ ⟨_, hs, .inl rfl⟩
    · exact (hs.2 b (Nat.ne_of_lt (Nat.lt_of_lt_of_le (Heap.lt_size e) I.ok.above))).trans (I.base.keep b o e n hb hx)
    · obtain ⟨sl, e1⟩ := I.base.slot b o e n hb hx
      exact ⟨sl, (hs.2 b (Nat.ne_of_lt (Nat.lt_of_lt_of_le (Heap.lt_size e) I.ok.above))).trans e1⟩
    · obtain ⟨o', e1⟩ := I.base.there b o e hx
      exact ⟨o', (hs.2 b (Nat.ne_of_lt (Nat.lt_of_lt_of_le (Heap.lt_size e) I.ok.above))).trans e1⟩
    · by_cases hj : j = i
      · subst hj
        rw [hi] at e1; cases e1
        rw [List.getElem?_set_self hiσ] at e2
        cases e2
        exact ⟨u, r, .inl ⟨hk, by simp⟩⟩
      · rw [List.getElem?_set_ne (Ne.symm hj)] at e2
        obtain ⟨u', r', q⟩ := hl j y v' e1 e2 e3
        refine ⟨u', r', ?_⟩
        rcases q with ⟨k, e⟩ | ⟨k, c, e, z⟩
        · refine .inl ⟨k, ?_⟩
          have : y ≠ x := fun e => hj (nodup_ix hN e1 (e ▸ hi))
          simp [this, e]
        · exact .inr ⟨k, c, e, z.sameBut hs (cne y c e)⟩
    · obtain ⟨w', z⟩ := I.cell y c e
      exact ⟨w', z.sameBut hs (cne y c e)⟩
    · obtain ⟨e, n, ne, nf, d⟩ := I.pin p hp
      exact ⟨(hs.2 p.1 ne).trans e, n, ne, nf, d⟩
  · have hfn : X.fn x = true := by
      rcases hf with z | z
      · exact z
      · rw [z] at hk; cases hk
    obtain ⟨c, hc⟩ := I.ok.has x (.inl hk)
    obtain ⟨w', z⟩ := I.cell x c hc
    refine wpAny_storeName_cell I.ok.kind hk hc z (fun h' hc' hs => ?_)
    obtain ⟨oc, hoc, hocd⟩ := id z
    refine h { s with heap := h' } ⟨I.ok, I.os, I.bare, ⟨fun b o e n hb hx => ?_, fun b o e n hb hx => ?_, I.base.free, fun b o e hx => ?_, I.base.tups, I.base.frzs, I.base.tbls⟩, ⟨m, hn.sameBut hs (Ne.symm (cne x c hc)), fun j y v' e1 e2 e3 => ?_⟩, fun y c' e => ?_, I.free, I.freeC, fun p hp => ?_, tracked ⟨oc, hoc, I.freeC x c hc⟩ hs, by simpa using I.len⟩ ⟨c, hs, .inr hc⟩
    · exact (hs.2 b (Nat.ne_of_lt (Nat.lt_of_lt_of_le (Heap.lt_size e) (I.ok.cab x c hfn hc)))).trans (I.base.keep b o e n hb hx)
    · obtain ⟨sl, e1⟩ := I.base.slot b o e n hb hx
      exact ⟨sl, (hs.2 b (Nat.ne_of_lt (Nat.lt_of_lt_of_le (Heap.lt_size e) (I.ok.cab x c hfn hc)))).trans e1⟩
    · obtain ⟨o', e1⟩ := I.base.there b o e hx
      exact ⟨o', (hs.2 b (Nat.ne_of_lt (Nat.lt_of_lt_of_le (Heap.lt_size e) (I.ok.cab x c hfn hc)))).trans e1⟩
    · by_cases hj : j = i
      · subst hj
        rw [hi] at e1; cases e1
        rw [List.getElem?_set_self hiσ] at e2
        cases e2
        exact ⟨u, r, .inr ⟨.inl hk, c, hc, hc'⟩⟩
      · rw [List.getElem?_set_ne (Ne.symm hj)] at e2
        obtain ⟨u', r', q⟩ := hl j y v' e1 e2 e3
        refine ⟨u', r', ?_⟩
        rcases q with q | ⟨k, c', e, z'⟩
        · exact .inl q
        · refine .inr ⟨k, c', e, z'.sameBut hs ?_⟩
          rintro rfl
          exact hj (nodup_ix hN e1 (I.ok.inj _ _ _ e hc ▸ hi))
    · by_cases hcc : c' = c
      · subst hcc; exact ⟨_, hc'⟩
      · obtain ⟨w2, z2⟩ := I.cell y c' e
        exact ⟨w2, z2.sameBut hs hcc⟩
    · obtain ⟨e, n, ne, nf, d⟩ := I.pin p hp
      refine ⟨(hs.2 p.1 ?_).trans e, n, ne, nf, d⟩
      intro q
      rw [q, hoc] at e
      have q' : oc = p.2 := Option.some.inj e
      exact d w' (by rw [← q']; exact hocd)
theorem store_ok {M : Model} {A : Around} {E : Value → Shared → Prop} {i : Nat} {x : Str} {v : V} {u : Value} {Q : Unit → Shared → Prop} (I : Inv X pins σ H s) (hN : X.N.Nodup) (hi : X.N[i]? = some x) (hx : Loc X.env.scope x) (r : RelV v u)
    (h : ∀ s', Inv X pins (σ.set i (some v)) H s' → Q () s') (hf : X.fn x = true ∨ X.env.scope.names.lookup x = some .local := by first | exact .inl rfl | exact .inr rfl | assumption) : wpAny M A (storeName X.env x u) Q E s :=
  store_ok2 I hN hi hx r (fun s' I' _ => h s' I') hf
theorem Inv.call' {s' : Shared} {ch : List Addr} (I : Inv X pins σ H s) (ho : s'.os = s.os) (u : Un (frs X.stack) ch H H' s.heap s'.heap) (hok : HOk X.prog X.w H' s'.heap) (hg : AllBare s'.gens)
    (hch : ∀ b ∈ ch, (b ∈ X.ex ∨ X.s₀.heap.objs.size ≤ b) ∧ b ≠ X.env.locals ∧ (∀ x c, X.env.cells.lookup x = some c → c ≠ b) ∧ ∀ p ∈ X.pn ++ pins, p.1 ≠ b) : Inv X pins σ H' s' := by
  obtain ⟨h', g', d', t', o'⟩ := s'
  have e : o' = s.os := ho
  subst e
  exact I.call (g' := g') (t' := t') (d' := d') u hok hg hch
end
abbrev XK := Value → Option Addr → Hp → Prop
abbrev St := List (Option V)
abbrev VK := V → Hp → Prop
abbrev TE := St → Hp → VK → Prop
abbrev TT := St → Hp → (Bool → Hp → Prop) → Prop
abbrev TA := St → Hp → (List V → Hp → Prop) → Prop
structure Ends where
  nx : St → Hp → Prop
  rt : VK
  bk : St → Hp → Prop := fun _ _ => False
  ct : St → Hp → Prop := fun _ _ => False
abbrev TS := Ends → St → Hp → Prop
def EP (X : Cx) (pins : List (Addr × Obj)) (σ : St) (Q : VK) (u : Value) (s' : Shared) : Prop := ∃ v H', Inv X pins σ H' s' ∧ RelV v u ∧ Q v H'
def TP (X : Cx) (pins : List (Addr × Obj)) (σ : St) (Q : Bool → Hp → Prop) (b : Bool) (s' : Shared) : Prop := ∃ H', Inv X pins σ H' s' ∧ Q b H'
def AP (X : Cx) (pins : List (Addr × Obj)) (σ : St) (Q : List V → Hp → Prop) (us : List Value) (s' : Shared) : Prop := ∃ vs H', Inv X pins σ H' s' ∧ Vals vs us ∧ Q vs H'
def SP (X : Cx) (pins : List (Addr × Obj)) (D : Ends) (f : Flow) (s' : Shared) : Prop :=
  match f with
  | .next => ∃ σ' H', Inv X pins σ' H' s' ∧ D.nx σ' H'
  | .brk => ∃ σ' H', Inv X pins σ' H' s' ∧ D.bk σ' H'
  | .cont => ∃ σ' H', Inv X pins σ' H' s' ∧ D.ct σ' H'
  | .ret u => ∃ v σ' H', Inv X pins σ' H' s' ∧ RelV v u ∧ D.rt v H'
def PE (X : Cx) (e : Expr) (t : TE) : Prop :=
  ∀ (pins : List (Addr × Obj)) (s : Shared) (σ : St) (H : Hp) (Q : VK), Inv X pins σ H s → t σ H Q → wpAny (model X.prog X.w) X.A (eval e X.env) (EP X pins σ Q) X.xe s
def PT (X : Cx) (e : Expr) (t : TT) : Prop :=
  ∀ (pins : List (Addr × Obj)) (s : Shared) (σ : St) (H : Hp) (Q : Bool → Hp → Prop), Inv X pins σ H s → t σ H Q → wpAny (model X.prog X.w) X.A (isTrue e X.env (eval e X.env)) (TP X pins σ Q) X.xe s
def PW (X : Cx) (e : Expr) (t : TT) : Prop :=
  ∀ (whole : Sem Value) (pins : List (Addr × Obj)) (s : Shared) (σ : St) (H : Hp) (Q : Bool → Hp → Prop), Inv X pins σ H s → t σ H Q → wpAny (model X.prog X.w) X.A (isTrue e X.env whole) (TP X pins σ Q) X.xe s
theorem PW.pt {X : Cx} {e : Expr} {t : TT} (h : PW X e t) : PT X e t := h _
def PA (X : Cx) (es : List Expr) (t : TA) : Prop :=
  ∀ (pos : Pos) (pins : List (Addr × Obj)) (s : Shared) (σ : St) (H : Hp) (Q : List V → Hp → Prop), Inv X pins σ H s → t σ H Q → wpAny (model X.prog X.w) X.A (spliced (backTo pos (starEach es X.env))) (AP X pins σ Q) X.xe s
def PS (X : Cx) (st : Stmt) (t : TS) : Prop :=
  ∀ (pins : List (Addr × Obj)) (s : Shared) (σ : St) (H : Hp) (D : Ends), Inv X pins σ H s → t D σ H → wpAny (model X.prog X.w) X.A (exec st X.env) (SP X pins D) X.xe s
def PSs (X : Cx) (st : List Stmt) (t : TS) : Prop :=
  ∀ (pins : List (Addr × Obj)) (s : Shared) (σ : St) (H : Hp) (D : Ends), Inv X pins σ H s → t D σ H → wpAny (model X.prog X.w) X.A (execs st X.env) (SP X pins D) X.xe s
theorem thn {α : Type} {t : Sem α} {Q Q' : α → Shared → Prop} {M : Model} {A : Around} {E : Value → Shared → Prop} {s : Shared} (h : wpAny M A t Q E s) (hQ : ∀ a s, Q a s → Q' a s) : wpAny M A t Q' E s := wpAny_mono h hQ fun _ _ x => x
end L2
namespace L2
open PySem PySem.Spec PyProof.Rows
section
variable {X : Cx}
def tVar (i : Nat) : TE := fun σ H Q => ∃ v, σ[i]? = some (some v) ∧ Q v H
def tC (v : V) : TE := fun _ H Q => Q v H
theorem pe_var {i : Nat} {x : Str} {pos : Pos} (hN : X.N[i]? = some x) (hv : Vis X.env.scope x) (hd : (x == ("__debug__" : Str)) = false := by decide) (hcd : (x == ("__classdict__" : Str)) = false := by decide) : PE X (.Name x pos) (tVar i) := by
  intro pins s σ H Q I h
  obtain ⟨v, e, h⟩ := h
  obtain ⟨m, hn, hl⟩ := I.loc
  obtain ⟨u, r, l⟩ := hl i x v hN e hv
  have fin : EP X pins σ Q u s := ⟨v, H, I, r, h⟩
  rcases l with ⟨hk, hm⟩ | ⟨hk, c, hc, hcell⟩
  · exact wpAny_Name (wpAny_loadName_local I.ok.kind hk hn hm fin) hd
  · rcases hk with hk | hk
    · exact wpAny_Name (wpAny_loadName_cell I.ok.kind hk hc hcell fin) hd
    · exact wpAny_Name (wpAny_loadName_free I.ok.kind hk hc hcell fin hcd) hd
theorem pe_int {i j pos} : PE X (.Constant (.int i) j pos) (tC (.int i)) := fun _ _ _ H _ I h => wpAny_Constant_int ⟨.int i, H, I.tok _, ⟨_, rfl⟩, h⟩
theorem pe_bl {b j pos} : PE X (.Constant (.bool b) j pos) (tC (.bl b)) := fun _ _ _ H _ I h => Constant_bool ⟨.bl b, H, I, rfl, h⟩
theorem pe_non {j pos} : PE X (.Constant .none j pos) (tC .non) := fun _ _ _ H _ I h => Constant_none ⟨.non, H, I, rfl, h⟩
def Gl (X : Cx) (x : Str) : Prop := X.env.kindOf x = some .globalImplicit
theorem ld_glob {E : Value → Shared → Prop} {pins : List (Addr × Obj)} {s : Shared} {σ : St} {H : Hp} {x : Str} {u : Value} {pos : Pos} {Q : Value → Shared → Prop} (I : Inv X pins σ H s) (hg : Gl X x) (hm : X.mg x = some u) (h : Q u s)
    (hd : (x == ("__debug__" : Str)) = false := by decide) : wpAny (model X.prog X.w) X.A (eval (.Name x pos) X.env) Q E s :=
  Calls.Name_function_global I.ok.kind hg (Calls.loadGlobal_global (by rw [I.ok.glob]; exact I.mod.glob.keeps I.bk) hm h) hd
theorem ld_blt {E : Value → Shared → Prop} {pins : List (Addr × Obj)} {s : Shared} {σ : St} {H : Hp} {x : Str} {u : Value} {pos : Pos} {Q : Value → Shared → Prop} (I : Inv X pins σ H s) (hg : Gl X x) (hm : X.mg x = none) (hv : bootBuiltins x = some u) (h : Q u s)
    (hn : x ≠ "__name__" := by decide) (hd : (x == ("__debug__" : Str)) = false := by decide) : wpAny (model X.prog X.w) X.A (eval (.Name x pos) X.env) Q E s := by
  obtain ⟨mb, h1, h2⟩ := I.mod.blt
  exact Calls.Name_function_global I.ok.kind hg (Calls.loadGlobal_builtin (by rw [I.ok.glob]; exact I.mod.glob.keeps I.bk) hm (by rw [I.ok.blt]; exact h1.keeps I.bk) ((h2 x hn).trans hv) h) hd
theorem pe_bltn {x : Str} {v : V} {u : Value} {pos : Pos} (hg : Gl X x) (hm : X.mg x = none) (hv : bootBuiltins x = some u) (r : RelV v u) (hn : x ≠ "__name__" := by decide) (hd : (x == ("__debug__" : Str)) = false := by decide) : PE X (.Name x pos) (tC v) :=
  fun _ _ _ H _ I h => ld_blt I hg hm hv ⟨v, H, I, r, h⟩ hn hd
variable {a b : Expr} {ta tb : TE} {pos : Pos}
def tB (t : TE) : TT := fun σ H Q => t σ H fun x H1 => ∃ c, x = .bl c ∧ Q c H1
theorem pt_val {e : Expr} {t : TE} (h : PE X e t) (he : ∀ whole, isTrue e X.env whole = (do let v ← whole; standAt e.pos; holding [v] (truthy v)) := by intro _; rfl) : PT X e (tB t) := by
  intro pins s σ H Q I hw
  refine isTrue_plain (thn (h pins s σ H _ I hw) fun v s1 ⟨x, H1, I1, r1, q1⟩ => ?_) (he _)
  obtain ⟨d, rfl, q⟩ := q1
  cases r1
  exact wpAny_truthy_bool ⟨H1, I1, q⟩
variable {tA tB' : TT} {rest : List Expr}
def tAnd (t u : TT) : TT := fun σ H Q => t σ H fun c H1 => if c = true then u σ H1 Q else Q false H1
def tOr (t u : TT) : TT := fun σ H Q => t σ H fun c H1 => if c = true then Q true H1 else u σ H1 Q
def tNot (t : TT) : TT := fun σ H Q => t σ H fun c H1 => Q (!c) H1
theorem pw_and1 (ha : PT X a tA) : PW X (.BoolOp .And [a] pos) tA := by
  intro wh pins s σ H Q I h
  refine isTrue_and (thn (ha pins s σ H Q I h) fun c s1 e => ?_)
  cases c with
  | true => exact isTrue_and_nil e
  | false => exact e
theorem pw_or1 (ha : PT X a tA) : PW X (.BoolOp .Or [a] pos) tA := by
  intro wh pins s σ H Q I h
  refine isTrue_or (thn (ha pins s σ H Q I h) fun c s1 e => ?_)
  cases c with
  | false => exact isTrue_or_nil e
  | true => exact e
theorem pw_and (ha : PT X a tA) (hb : PW X (.BoolOp .And (b :: rest) pos) tB') : PW X (.BoolOp .And (a :: b :: rest) pos) (tAnd tA tB') := by
  intro wh pins s σ H Q I h
  refine isTrue_and (thn (ha pins s σ H _ I h) fun c s1 ⟨H1, I1, q1⟩ => ?_)
  cases c with
  | true => exact hb wh pins s1 σ H1 Q I1 q1
  | false => exact ⟨H1, I1, q1⟩
theorem pw_or (ha : PT X a tA) (hb : PW X (.BoolOp .Or (b :: rest) pos) tB') : PW X (.BoolOp .Or (a :: b :: rest) pos) (tOr tA tB') := by
  intro wh pins s σ H Q I h
  refine isTrue_or (thn (ha pins s σ H _ I h) fun c s1 ⟨H1, I1, q1⟩ => ?_)
  cases c with
  | true => exact ⟨H1, I1, q1⟩
  | false => exact hb wh pins s1 σ H1 Q I1 q1
theorem pt_not (ha : PT X a tA) : PT X (.UnaryOp .Not a pos) (tNot tA) := by
  intro pins s σ H Q I h
  exact isTrue_not (ha pins s σ H (fun c H1 => Q (!c) H1) I h)
end
end L2
namespace L2
open PySem PySem.Spec PyProof.Rows
def SqL (K : PySem.W.Frag) (H : Hp) (a : Addr) (xs : List V) : Prop :=
  Rd H a (.lst xs) ∨
    ∃ (o : Obj) (its : Array Value) (n : Nat), K.lookup a = some o ∧ o.cls = .type "list" ∧ o.dict = none ∧ o.data = .seq its n ∧ its.size ≤ sizeLine ∧ Vals xs its.toList
def SqT (K : PySem.W.Frag) (H : Hp) (a : Addr) (xs : List V) : Prop :=
  Rd H a (.tup xs) ∨
    ∃ (o : Obj) (its : Array Value) (n : Nat), K.lookup a = some o ∧ o.cls = .type "tuple" ∧ o.data = .seq its n ∧ its.size ≤ sizeLine ∧ Vals xs its.toList
def absV : Value → Option V
  | .none => some .non
  | .bool b => some (.bl b)
  | .int i _ => some (.int i)
  | .str x _ => some (.str x)
  | .bytes b _ => some (.byt b)
  | .float b _ => some (.flt b)
  | .ref a => some (.ref a)
  | .type n => some (.ty n)
  | _ => none
theorem RelV.abs {x : V} {u : Value} (r : RelV x u) : absV u = some x := by
  cases x with
  | non => cases r; rfl
  | bl _ => cases r; rfl
  | int _ => obtain ⟨t, rfl⟩ := r; rfl
  | str _ => obtain ⟨t, rfl⟩ := r; rfl
  | byt _ => obtain ⟨t, rfl⟩ := r; rfl
  | flt _ => obtain ⟨t, rfl⟩ := r; rfl
  | ref _ => cases r; rfl
  | ty _ => cases r; rfl
theorem RelV.inj {x y : V} {u : Value} (r : RelV x u) (q : RelV y u) : x = y := Option.some.inj (r.abs.symm.trans q.abs)
theorem Vals.inj : ∀ {xs ys : List V} {us : List Value}, Vals xs us → Vals ys us → xs = ys
  | _, _, _, .nil, .nil => rfl
  | _, _, _, .cons r t, .cons r' t' => by rw [r.inj r', Vals.inj t t']
section
variable {X : Cx} {pins : List (Addr × Obj)} {σ : St} {H : Hp} {s : Shared} {a : Addr} {xs ys : List V}
theorem SqL.of {K : PySem.W.Frag} (h : H a = some (.lst xs)) : SqL K H a xs := .inl (.inl h)
theorem SqT.of {K : PySem.W.Frag} (h : H a = some (.tup xs)) : SqT K H a xs := .inl (.inl h)
theorem Inv.list (I : Inv X pins σ H s) (h : SqL X.K H a xs) : ∃ its : List Value, Vals xs its ∧ PlainL s.heap a its.toArray ∧ xs.length ≤ sizeLine := by
  rcases h with h | ⟨o, its, n, hk, hc, hd, hs, hz, r⟩
  · obtain ⟨z, its, n, r, e⟩ := h.ok I.hok
    exact ⟨its, r, ⟨_, n, e, rfl, rfl, rfl⟩, z⟩
  · refine ⟨its.toList, r, ⟨o, n, I.kIn a o hk, hc, hd, by simpa using hs⟩, ?_⟩
    have e := r.length
    simp only [Array.length_toList] at e
    omega
theorem Inv.tuple (I : Inv X pins σ H s) (h : SqT X.K H a xs) : ∃ its : List Value, Vals xs its ∧ IsTup s.heap a its.toArray ∧ xs.length ≤ sizeLine := by
  rcases h with h | ⟨o, its, n, hk, hc, hs, hz, r⟩
  · obtain ⟨z, its, r, p⟩ := h.ok I.hok
    exact ⟨its, r, p, z.1⟩
  · refine ⟨its.toList, r, ⟨o, I.kIn a o hk, hc, n, by simpa using hs⟩, ?_⟩
    have e := r.length
    simp only [Array.length_toList] at e
    omega
theorem Inv.list_inj (I : Inv X pins σ H s) (h : SqL X.K H a xs) (h' : SqL X.K H a ys) : xs = ys := by
  obtain ⟨its, r, ⟨o, n, e, _, _, d⟩, _⟩ := I.list h
  obtain ⟨its', r', ⟨o', n', e', _, _, d'⟩, _⟩ := I.list h'
  rw [e] at e'; cases e'
  rw [d] at d'
  injection d' with d1 _
  have : its = its' := by simpa using congrArg Array.toList d1
  subst this
  exact r.inj r'
end
abbrev Cx.wish (X : Cx) (E : Value → Shared → Prop) : Cx := { X with xe := E }
abbrev Cx.nox (X : Cx) : Cx := X.wish fun _ _ => False
theorem Cx.Ok.wish {X : Cx} (ok : X.Ok) (E : Value → Shared → Prop) : (X.wish E).Ok :=
  ⟨ok.mod, ok.kind, ok.glob, ok.blt, ok.above, ok.inj, ok.has, ok.cab, ok.hd, ok.frames, ok.stk, ok.exf, ok.bs, ok.bsz, ok.noex, ok.exfs, ok.funs, ok.frf⟩
theorem Cx.Ok.unwish {X : Cx} {E : Value → Shared → Prop} (ok : (X.wish E).Ok) : X.Ok :=
  ⟨ok.mod, ok.kind, ok.glob, ok.blt, ok.above, ok.inj, ok.has, ok.cab, ok.hd, ok.frames, ok.stk, ok.exf, ok.bs, ok.bsz, ok.noex, ok.exfs, ok.funs, ok.frf⟩
section
variable {X : Cx} {pins : List (Addr × Obj)} {σ : St} {H : Hp} {s : Shared} {E : Value → Shared → Prop}
theorem Inv.wish (I : Inv X pins σ H s) (E : Value → Shared → Prop) : Inv (X.wish E) pins σ H s := ⟨I.ok.wish E, I.os, I.bare, I.base, I.loc, I.cell, I.free, I.freeC, I.pin, I.hok, I.len⟩
theorem Inv.unwish (I : Inv (X.wish E) pins σ H s) : Inv X pins σ H s := ⟨I.ok.unwish, I.os, I.bare, I.base, I.loc, I.cell, I.free, I.freeC, I.pin, I.hok, I.len⟩
theorem SP.unwish {D : Ends} {f : Flow} {s' : Shared} (h : SP (X.wish E) pins D f s') : SP X pins D f s' := by
  cases f with
  | next => obtain ⟨σ', H', I, q⟩ := h; exact ⟨σ', H', I.unwish, q⟩
  | brk => obtain ⟨σ', H', I, q⟩ := h; exact ⟨σ', H', I.unwish, q⟩
  | cont => obtain ⟨σ', H', I, q⟩ := h; exact ⟨σ', H', I.unwish, q⟩
  | ret u => obtain ⟨v, σ', H', I, r, q⟩ := h; exact ⟨v, σ', H', I.unwish, r, q⟩
theorem PSs.nox {st : List Stmt} {t : TS} (h : PSs X.nox st t) : PSs X st t := fun pins s σ H D I hw =>
  wpAny_mono (h pins s σ H D (I.wish _) hw) (fun _ _ q => q.unwish) fun _ _ z => False.elim z
end
section
variable {X : Cx} {st : Stmt} {rest : List Stmt} {t u : TS} {e : Expr} {te : TE} {pos : Pos}
def tNext : TS := fun D σ H => D.nx σ H
def tSeq (t u : TS) : TS := fun D σ H => t { D with nx := u D } σ H
theorem pss_nil : PSs X [] tNext := fun _ _ σ H _ I h => wpAny_execs_nil ⟨σ, H, I, h⟩
theorem pss_cons (h1 : PS X st t) (h2 : PSs X rest u) : PSs X (st :: rest) (tSeq t u) := by
  intro pins s σ H D I h
  refine wpAny_execs_cons (thn (h1 pins s σ H { D with nx := u D } I h) fun f s1 q => ?_)
  cases f with
  | next =>
    obtain ⟨σ', H', I', q⟩ := q
    exact h2 pins s1 σ' H' D I' q
  | ret v => exact q
  | brk => exact q
  | cont => exact q
theorem pss_one (h1 : PS X st t) : PSs X [st] t := by
  intro pins s σ H D I h
  refine wpAny_execs_cons (thn (h1 pins s σ H D I h) fun f s1 q => ?_)
  cases f with
  | next => exact wpAny_execs_nil q
  | ret v => exact q
  | brk => exact q
  | cont => exact q
theorem Inv.quiet {pins : List (Addr × Obj)} {σ : St} {H : Hp} {s : Shared} (I : Inv X pins σ H s) : interactive X.env = false := by simp [interactive, I.ok.kind]
def tDrop (te : TE) : TS := fun D σ H => te σ H fun _ H1 => D.nx σ H1
theorem ps_expr (he : PE X e te) (hs : swapsWith e none pos.line X.env = pure false := by rfl) : PS X (.Expr e pos) (tDrop te) := by
  intro pins s σ H D I h
  exact wpAny_Expr_any (thn (he pins s σ H _ I h) fun v s1 ⟨x, H1, I1, r1, q1⟩ => ⟨σ, H1, I1, q1⟩) I.quiet hs
def tRet (te : TE) : TS := fun D σ H => te σ H D.rt
theorem ps_ret (he : PE X e te) : PS X (.Return (some e) pos) (tRet te) := by
  intro pins s σ H D I h
  exact wpAny_Return_some (thn (he pins s σ H _ I h) fun v s1 ⟨x, H1, I1, r1, q1⟩ => ⟨x, σ, H1, I1, r1, q1⟩)
def tIfS (c : TT) (t u : TS) : TS := fun D σ H => c σ H fun b H1 => if b = true then t D σ H1 else u D σ H1
theorem ps_if {c : Expr} {a b : List Stmt} {tc : TT} (hc : PT X c tc) (ha : PSs X a t) (hb : PSs X b u) : PS X (.If c a b pos) (tIfS tc t u) := by
  intro pins s σ H D I h
  refine wpAny_If (thn (hc pins s σ H _ I h) fun d s1 ⟨H1, I1, q1⟩ => ?_)
  cases d with
  | true => exact ha pins s1 σ H1 D I1 q1
  | false => exact hb pins s1 σ H1 D I1 q1
end
abbrev TG := V → St → Hp → (St → Hp → Prop) → Prop
abbrev TGs := List V → St → Hp → (St → Hp → Prop) → Prop
def PG (X : Cx) (target : Expr) (t : TG) : Prop :=
  ∀ (pins : List (Addr × Obj)) (s : Shared) (σ : St) (H : Hp) (v : V) (u : Value) (Q : St → Hp → Prop), Inv X pins σ H s → RelV v u → t v σ H Q →
    wpAny (model X.prog X.w) X.A (assign target X.env u) (fun _ s' => ∃ σ' H', Inv X pins σ' H' s' ∧ Q σ' H') X.xe s
def PGs (X : Cx) (ts : List Expr) (t : TGs) : Prop :=
  ∀ (pins : List (Addr × Obj)) (s : Shared) (σ : St) (H : Hp) (vs : List V) (us : List Value) (Q : St → Hp → Prop), Inv X pins σ H s → Vals vs us → t vs σ H Q →
    wpAny (model X.prog X.w) X.A (assignInOrder ((assignEach ts X.env).map (·.2)) us) (fun _ s' => ∃ σ' H', Inv X pins σ' H' s' ∧ Q σ' H') X.xe s
abbrev TSet := V → V → V → Hp → (Hp → Prop) → Prop
def PSet (X : Cx) (t : TSet) : Prop :=
  ∀ (pins : List (Addr × Obj)) (s : Shared) (σ : St) (H : Hp) (o i v : V) (ov iv u : Value) (Q : Hp → Prop), Inv X pins σ H s → RelV o ov → RelV i iv → RelV v u → t o i v H Q →
    wpAny (model X.prog X.w) X.A (setItem ov iv u) (fun _ s' => ∃ H', Inv X pins σ H' s' ∧ Q H') X.xe s
abbrev TIp := V → V → Hp → VK → Prop
def PIp (X : Cx) (op : Operator) (t : TIp) : Prop :=
  ∀ (pins : List (Addr × Obj)) (s : Shared) (σ : St) (H : Hp) (x y : V) (v u : Value) (Q : VK), Inv X pins σ H s → RelV x v → RelV y u → t x y H Q →
    wpAny (model X.prog X.w) X.A (inplaceOp op v u) (EP X pins σ Q) X.xe s
section
variable {X : Cx} {pos : Pos}
def gName (i : Nat) : TG := fun v σ H Q => Q (σ.set i (some v)) H
theorem pg_name {i : Nat} {x : Str} (hN : X.N.Nodup) (hi : X.N[i]? = some x) (hx : Loc X.env.scope x) (hf : X.fn x = true ∨ X.env.scope.names.lookup x = some .local := by first | exact .inl rfl | exact .inr rfl | assumption) : PG X (.Name x pos) (gName i) := by
  intro pins s σ H v u Q I r h
  exact wpAny_assign_Name (store_ok I hN hi hx r (fun s' I' => ⟨_, H, I', h⟩) hf)
def gNil : TGs := fun vs σ H Q => vs = [] ∧ Q σ H
def gCons (t : TG) (u : TGs) : TGs := fun vs σ H Q => ∃ v r, vs = v :: r ∧ t v σ H fun σ' H' => u r σ' H' Q
theorem pgs_nil : PGs X [] gNil := by
  intro pins s σ H vs us Q I r h
  obtain ⟨e, h⟩ := h
  subst e
  cases r
  exact assignInOrder_nil ⟨σ, H, I, h⟩
theorem pgs_cons {e : Expr} {es : List Expr} {t : TG} {u : TGs} (h1 : PG X e t) (h2 : PGs X es u)
    (hs : (assignEach (e :: es) X.env).map (·.2) = assign e X.env :: (assignEach es X.env).map (·.2) := by rfl) : PGs X (e :: es) (gCons t u) := by
  intro pins s σ H vs us Q I r h
  obtain ⟨v, vr, e1, h⟩ := h
  subst e1
  cases r with
  | cons r rr =>
    rw [hs]
    refine assignInOrder_cons (thn (h1 pins s σ H _ _ _ I r h) fun _ s1 ⟨σ1, H1, I1, q1⟩ => ?_)
    exact h2 pins s1 σ1 H1 _ _ Q I1 rr q1
def gTup (K : PySem.W.Frag) (n : Nat) (t : TGs) : TG := fun v σ H Q => ∃ a xs, v = .ref a ∧ SqT K H a xs ∧ xs.length = n ∧ t xs σ H Q
theorem pg_tup {es : List Expr} {k : Nat} {t : TGs} {n : Nat} (hc : X.calm = true) (h : PGs X es t)
    (hn : (assignEach es X.env).length = n := by rfl) (hst : (assignEach es X.env).findIdx? (·.1) = none := by rfl) : PG X (.Tuple es k pos) (gTup X.K n t) := by
  intro pins s σ H v u Q I r hw
  obtain ⟨a, xs, e1, hq, hl, hw⟩ := hw
  subst e1
  cases r
  obtain ⟨its, rv, ht, hz⟩ := I.tuple hq
  refine assign_Tuple_tuple (I.ok.hd hc) ht (by simp [hn, ← hl, rv.length]) hst fun h' hx => ?_
  have I1 : Inv X pins σ H { s with heap := h' } := I.kept (t' := s.toks) fun b o e => hx b o (Nat.ne_of_lt (Heap.lt_size e)) e
  exact h pins _ σ H xs _ Q I1 (by simpa using rv) hw
def gSub (to ti : TE) (t : TSet) : TG := fun v σ H Q => to σ H fun o H1 => ti σ H1 fun i H2 => t o i v H2 fun H3 => Q σ H3
theorem pg_sub {o i : Expr} {to ti : TE} {t : TSet} (ho : PE X o to) (hi : PE X i ti) (hs : PSet X t)
    (ha : ∀ v, assign (.Subscript o i pos) X.env v = (do
      let ov ← holding [v] (eval o X.env)
      let iv ← holding [v, ov] (eval i X.env)
      standAt pos
      holding [v, ov, iv] (setItem ov iv v)
      release [v, ov, iv] []) := by intro _; rfl) : PG X (.Subscript o i pos) (gSub to ti t) := by
  intro pins s σ H v u Q I r h
  rw [ha]
  refine wpAny_bind (wpAny_holding (thn (ho pins s σ H _ I h) fun ov s1 ⟨x, H1, I1, r1, q1⟩ => ?_))
  refine wpAny_bind (wpAny_holding (thn (hi pins s1 σ H1 _ I1 q1) fun iv s2 ⟨y, H2, I2, r2, q2⟩ => ?_))
  refine wpAny_bind (wpAny_standAt (wpAny_bind (wpAny_holding (thn (hs pins s2 σ H2 x y v ov iv u _ I2 r1 r2 r q2) fun _ s3 ⟨H3, I3, q3⟩ => ?_))))
  exact wpAny_release ⟨σ, H3, I3, q3⟩
def tAsg (te : TE) (g : TG) : TS := fun D σ H => te σ H fun x H1 => g x σ H1 D.nx
theorem ps_asg {tg e : Expr} {te : TE} {g : TG} (he : PE X e te) (hg : PG X tg g) (hs : swapsWithSole [tg] e pos.line X.env = pure false := by rfl) (hw : swappedStores [tg] e X.env = pure none := by rfl)
    (h1 : (assignEach [tg] X.env).map (·.2) = [assign tg X.env] := by rfl) : PS X (.Assign [tg] e pos) (tAsg te g) := by
  intro pins s σ H D I h
  refine wpAny_Assign_stores (thn (he pins s σ H _ I h) fun v s1 ⟨x, H1, I1, r1, q1⟩ => ?_) hs hw
  rw [h1]
  exact thn (hg pins s1 σ H1 x v _ I1 r1 q1) fun _ s2 q => q
theorem ps_set {i : Nat} {x : Str} {e : Expr} {te : TE} {pos' : Pos} (hN : X.N.Nodup) (hi : X.N[i]? = some x) (hx : Loc X.env.scope x) (he : PE X e te) (hs : swapsWith e (some (.Name x pos')) pos.line X.env = pure false := by rfl) (hf : X.fn x = true ∨ X.env.scope.names.lookup x = some .local := by first | exact .inl rfl | exact .inr rfl | assumption) :
    PS X (.Assign [.Name x pos'] e pos) (tAsg te (gName i)) := by
  intro pins s σ H D I h
  refine wpAny_Assign_Name (thn (he pins s σ H _ I h) fun v s1 ⟨y, H1, I1, r1, q1⟩ => ?_) hs
  exact store_ok I1 hN hi hx r1 (fun s2 I2 => ⟨_, H1, I2, q1⟩) hf
def tAug (i : Nat) (te : TE) (ti : TIp) : TS := fun D σ H => ∃ x, σ[i]? = some (some x) ∧ te σ H fun y H1 => ti x y H1 fun z H2 => D.nx (σ.set i (some z)) H2
theorem ps_aug {i : Nat} {x : Str} {e : Expr} {te : TE} {op : Operator} {ti : TIp} {pos' : Pos} (hN : X.N.Nodup) (hi : X.N[i]? = some x) (hx : Loc X.env.scope x) (he : PE X e te) (ho : PIp X op ti) (hf : X.fn x = true ∨ X.env.scope.names.lookup x = some .local := by first | exact .inl rfl | exact .inr rfl | assumption) :
    PS X (.AugAssign (.Name x pos') op e pos) (tAug i te ti) := by
  intro pins s σ H D I h
  obtain ⟨v, e1, h⟩ := h
  obtain ⟨m, hn, hl⟩ := I.loc
  have vis : Vis X.env.scope x := by rcases hx with k | k; exact .inl k; exact .inr (.inl k)
  obtain ⟨u, r, l⟩ := hl i x v hi e1 vis
  refine wpAny_AugAssign_Name ?_
  have go : wpAny (model X.prog X.w) X.A (eval e X.env) (fun w s₂ => wpAny (model X.prog X.w) X.A (inplaceOp op u w) (fun r s₃ => wpAny (model X.prog X.w) X.A (storeName X.env x r) (fun _ => SP X pins D .next) X.xe s₃) X.xe s₂) X.xe s := by
    refine thn (he pins s σ H _ I h) fun w s1 ⟨y, H1, I1, r1, q1⟩ => ?_
    refine thn (ho pins s1 σ H1 v y u w _ I1 r r1 q1) fun z s2 ⟨zv, H2, I2, r2, q2⟩ => ?_
    exact store_ok I2 hN hi hx r2 (fun s3 I3 => ⟨_, H2, I3, q2⟩) hf
  rcases l with ⟨hk, hm⟩ | ⟨hk, c, hc, hcell⟩
  · exact wpAny_loadName_local I.ok.kind hk hn hm go
  · rcases hk with hk | hk
    · exact wpAny_loadName_cell I.ok.kind hk hc hcell go
    · rcases hx with k | k
      · have : X.env.scope.names.lookup x = some .free := hk
        rw [k] at this; cases this
      · have : X.env.scope.names.lookup x = some .free := hk
        rw [k] at this; cases this
def tAugS (to ti te : TE) (tget : V → V → Hp → VK → Prop) (tip : TIp) (tset : TSet) : TS := fun D σ H => to σ H fun o H1 => ti σ H1 fun i H2 => tget o i H2 fun x H3 => te σ H3 fun y H4 => tip x y H4 fun z H5 => tset o i z H5 fun H6 => D.nx σ H6
def PGet (X : Cx) (t : V → V → Hp → VK → Prop) : Prop :=
  ∀ (pins : List (Addr × Obj)) (s : Shared) (σ : St) (H : Hp) (o i : V) (ov iv : Value) (Q : VK), Inv X pins σ H s → RelV o ov → RelV i iv → t o i H Q →
    wpAny (model X.prog X.w) X.A (getItem ov iv) (EP X pins σ Q) X.xe s
theorem ps_augS {o i e : Expr} {to ti te : TE} {tget : V → V → Hp → VK → Prop} {tip : TIp} {tset : TSet} {op : Operator} {tpos : Pos} (ho : PE X o to) (hi : PE X i ti) (hg : PGet X tget) (he : PE X e te) (hp : PIp X op tip) (hs : PSet X tset)
    (ha : ∀ ov iv new, augStore i ov iv new = (do holding [new, ov, iv] (setItem ov iv new); release [new, ov, iv] []; pure .next) := by intros; rfl) : PS X (.AugAssign (.Subscript o i tpos) op e pos) (tAugS to ti te tget tip tset) := by
  intro pins s σ H D I h
  refine wpAny_AugAssign_SubscriptAny (thn (ho pins s σ H _ I h) fun ov s1 ⟨x1, H1, I1, r1, q1⟩ => ?_) ha
  refine thn (hi pins s1 σ H1 _ I1 q1) fun iv s2 ⟨x2, H2, I2, r2, q2⟩ => ?_
  refine thn (hg pins s2 σ H2 x1 x2 ov iv _ I2 r1 r2 q2) fun old s3 ⟨x3, H3, I3, r3, q3⟩ => ?_
  refine thn (he pins s3 σ H3 _ I3 q3) fun v s4 ⟨x4, H4, I4, r4, q4⟩ => ?_
  refine thn (hp pins s4 σ H4 x3 x4 old v _ I4 r3 r4 q4) fun new s5 ⟨x5, H5, I5, r5, q5⟩ => ?_
  exact thn (hs pins s5 σ H5 x1 x2 x5 ov iv new _ I5 r1 r2 r5 q5) fun _ s6 ⟨H6, I6, q6⟩ => ⟨σ, H6, I6, q6⟩
def ipI (f : Int → Int → Int) : TIp := fun x y H Q => ∃ i j, x = .int i ∧ y = .int j ∧ Q (.int (f i j)) H
theorem ip_add : PIp X .Add (ipI fun i j => i + j) := by
  intro pins s σ H x y v u Q I r1 r2 h
  obtain ⟨i, j, e1, e2, q⟩ := h
  subst e1; subst e2
  obtain ⟨t, rfl⟩ := r1
  obtain ⟨t', rfl⟩ := r2
  exact iadd_int ⟨.int _, H, I.tok _, ⟨_, rfl⟩, q⟩
theorem ip_sub : PIp X .Sub (ipI fun i j => i - j) := by
  intro pins s σ H x y v u Q I r1 r2 h
  obtain ⟨i, j, e1, e2, q⟩ := h
  subst e1; subst e2
  obtain ⟨t, rfl⟩ := r1
  obtain ⟨t', rfl⟩ := r2
  exact isub_int ⟨.int _, H, I.tok _, ⟨_, rfl⟩, q⟩
end
section
variable {X : Cx} {pos : Pos}
def tWhile (c : TT) (tb : TS) : TS := fun D σ H => ∃ W : Nat → St → Hp → Prop, (∃ m, W m σ H) ∧ ∀ m σ H, W m σ H →
  c σ H fun b H1 => if b = true then ∃ N : St → Hp → Prop, (∀ σ' H', N σ' H' → ∃ m', m' < m ∧ W m' σ' H') ∧ tb { D with nx := N, ct := N, bk := D.nx } σ H1 else D.nx σ H1
theorem ps_while {c : Expr} {body : List Stmt} {tc : TT} {tb : TS} (hp : PassesOwn (model X.prog X.w) X.A X.env X.xe) (hc : PT X c tc) (hb : PSs X body tb) : PS X (.While c body [] pos) (tWhile tc tb) := by
  intro pins s σ H D I h
  obtain ⟨W, ⟨m0, w0⟩, turn⟩ := h
  refine wpAny_While (codeAny_whileLoop (fun n s' => ∃ σ' H', Inv X pins σ' H' s' ∧ W n σ' H') ?_ m0 ⟨σ, H, I, w0⟩)
  rintro n s1 ⟨σ1, H1, I1, w1⟩
  refine wpAny_passesOwn hp (thn (hc pins s1 σ1 H1 _ I1 (turn n σ1 H1 w1)) fun b s2 ⟨H2, I2, q2⟩ => ?_)
  cases b with
  | true =>
    obtain ⟨N, hN, q2⟩ := q2
    rw [if_pos rfl]
    refine wpAny_passesOwn hp (thn (hb pins s2 σ1 H2 _ I2 q2) fun f s3 q3 => ?_)
    cases f with
    | next =>
      obtain ⟨σ3, H3, I3, n3⟩ := q3
      obtain ⟨m', hm, w3⟩ := hN σ3 H3 n3
      exact ⟨m', hm, σ3, H3, I3, w3⟩
    | cont =>
      obtain ⟨σ3, H3, I3, n3⟩ := q3
      obtain ⟨m', hm, w3⟩ := hN σ3 H3 n3
      exact ⟨m', hm, σ3, H3, I3, w3⟩
    | brk => exact q3
    | ret v => exact q3
  | false =>
    rw [if_neg Bool.false_ne_true]
    exact wpAny_execs_nil ⟨σ1, H2, I2, q2⟩
end
structure It where
  go : Nat → Hp → Prop
  yld : Nat → Hp → V → Hp → Prop
  stop : Nat → Hp → Prop
def FpOk (X : Cx) (pins : List (Addr × Obj)) (H : Hp) (b : Addr) : Prop :=
  H b = none ∧ b ≠ X.env.locals ∧ b ∉ X.fs ∧ (b ∈ X.ex ∨ X.s₀.heap.objs.size ≤ b) ∧ (∀ x c, X.env.cells.lookup x = some c → c ≠ b) ∧ ∀ p ∈ X.pn ++ pins, p.1 ≠ b
theorem Inv.fpOk {X : Cx} {pins : List (Addr × Obj)} {σ : St} {H H' : Hp} {s : Shared} {b : Addr} (I : Inv X pins σ H s) (hb : s.heap.objs.size ≤ b) (hn : H' b = none) : FpOk X pins H' b := by
  refine ⟨hn, Nat.ne_of_gt (Nat.lt_of_lt_of_le I.lt hb), I.nofs hb, .inr (Nat.le_trans I.sz hb), fun x c e z => ?_, fun p hp z => ?_⟩
  · obtain ⟨v, q⟩ := I.cell x c e
    exact absurd (Nat.lt_of_lt_of_le q.lt (by rw [z]; exact hb)) (Nat.lt_irrefl _)
  · exact absurd (Nat.lt_of_lt_of_le (Heap.lt_size (I.pin p hp).1) (by rw [z]; exact hb)) (Nat.lt_irrefl _)
structure Turn (P : Program) (w : World) (K : PySem.W.Frag) (tg : Expr) (J : It) (fp : List Addr) (it : Addr) (tn : Nat → Heap → Prop) : Prop where
  mem : it ∈ fp
  obj : ∀ i h, tn i h → ∀ b ∈ fp, ∃ o, h.get? b = some o ∧ ∀ v, o.data ≠ .cell v
  keep : ∀ i h h', tn i h → (∀ b ∈ fp, ∀ o, h.get? b = some o → h'.get? b = some o) → tn i h'
  item : ∀ (X : Cx), X.prog = P → X.w = w → X.K = K → X.calm = true → ∀ (i : Nat) (pins : List (Addr × Obj)) (s : Shared) (σ : St) (H : Hp) (E : Value → Shared → Prop), Inv X pins σ H s → (∀ b ∈ fp, FpOk X pins H b) → tn i s.heap → J.go i H →
    wpAny (model P w) X.A (pyNext (.ref it)) (fun r s1 => ∃ u, r = some u ∧
      wpAny (model P w) X.A (letOwnedTupleGo tg (.ref it) u) (fun _ s2 => ∃ x H', Inv X pins σ H' s2 ∧ RelV x u ∧ J.yld i H x H' ∧ tn (i + 1) s2.heap ∧ ∀ b ∈ fp, H' b = none) E s1) E s
  done : ∀ (X : Cx), X.prog = P → X.w = w → X.K = K → X.calm = true → ∀ (i : Nat) (pins : List (Addr × Obj)) (s : Shared) (σ : St) (H : Hp) (E : Value → Shared → Prop), Inv X pins σ H s → (∀ b ∈ fp, FpOk X pins H b) → tn i s.heap → J.stop i H →
    wpAny (model P w) X.A (pyNext (.ref it)) (fun r s1 => r = none ∧ Inv X pins σ H s1) E s
  self : ∀ (A : Around) (i : Nat) (s : Shared) (Q : Value → Shared → Prop) (E : Value → Shared → Prop), tn i s.heap → Q (.ref it) s → wpAny (model P w) A (pyIter (.ref it)) Q E s
abbrev TI := St → Hp → (It → Hp → Prop) → Prop
def PIE (X : Cx) (pins : List (Addr × Obj)) (σ : St) (tg : Expr) (R : It → Hp → Prop) (itv : Value) (s2 : Shared) : Prop :=
  ∃ (it : Addr) (fp : List Addr) (tn : Nat → Heap → Prop) (J : It) (H' : Hp), itv = .ref it ∧ Inv X pins σ H' s2 ∧ Turn X.prog X.w X.K tg J fp it tn ∧ tn 0 s2.heap ∧ (∀ b ∈ fp, FpOk X pins H' b) ∧ R J H'
def PI (X : Cx) (tg iter : Expr) (wi : TI) : Prop :=
  ∀ (pins : List (Addr × Obj)) (s : Shared) (σ : St) (H : Hp) (R : It → Hp → Prop), Inv X pins σ H s → wi σ H R →
    wpAny (model X.prog X.w) X.A (eval iter X.env) (fun v s1 => wpAny (model X.prog X.w) X.A (pyIter v) (PIE X pins σ tg R) X.xe s1) X.xe s
theorem go_of {M : Model} {A : Around} {E : Value → Shared → Prop} {s : Shared} {tg : Expr} {it : Addr} {u : Value} {o : Obj} {n : String} {vs : Array Value} {Q : Unit → Shared → Prop} (ho : s.heap.get? it = some o) (hc : o.cls = .type n) (hd : o.data = .fields vs)
    (hn : ["enumerate", "zip", "dict_itemiterator", "dict_reverseitemiterator", "odict_iterator", "itertools.zip_longest", "itertools.pairwise"].contains n = false) (hQ : Q () s) : wpAny M A (letOwnedTupleGo tg (.ref it) u) Q E s := by
  unfold letOwnedTupleGo
  cases tg <;> first
    | exact wpAny_pure hQ
    | (cases u <;> first
        | exact wpAny_pure hQ
        | (refine wpAny_bind (wpAny_load ho ?_)
           rw [hc, hd]
           show wpAny M A (if (["enumerate", "zip", "dict_itemiterator", "dict_reverseitemiterator", "odict_iterator", "itertools.zip_longest", "itertools.pairwise"].contains n && vs[0]? == some (rawInt _)) = true then _ else _) Q E s
           rw [if_neg (by intro h; rw [hn, Bool.false_and] at h; cases h)]
           exact wpAny_pure hQ))
def Itl (K : PySem.W.Frag) (a : Addr) : It :=
  ⟨fun i H => ∃ xs x, SqL K H a xs ∧ xs[i]? = some x, fun i H x H' => H' = H ∧ ∀ xs, SqL K H a xs → xs[i]? = some x, fun i H => ∃ xs, SqL K H a xs ∧ xs.length ≤ i⟩
def Itr (lo : Int) (n : Nat) : It := ⟨fun i _ => i < n, fun i H x H' => H' = H ∧ x = .int (lo + i), fun i _ => n ≤ i⟩
theorem turn_list {P : Program} {w : World} {K : PySem.W.Frag} {tg : Expr} (a it : Addr) : Turn P w K tg (Itl K a) [it] it (fun i h => h.IsListIter it a i) where
  mem := by simp
  obj := fun i h st b hb => by
    have e : b = it := by simpa using hb
    subst e
    obtain ⟨o, e, c, d⟩ := st
    exact ⟨o, e, fun v z => by rw [d] at z; cases z⟩
  keep := fun i h h' st k => st.at fun o e => k it (by simp) o e
  item := by
    intro X hP hw hK hc i pins s σ H E I hf st hg
    subst hP hw hK
    obtain ⟨xs, x, hq, hx⟩ := hg
    obtain ⟨its, rv, p, hz⟩ := I.list hq
    obtain ⟨u, hu, ru⟩ := rv.get hx
    obtain ⟨f0, f1, f2, f3, f4, f5⟩ := hf it (by simp)
    refine wpAny_pyNext_list_item st p.isList (x := u) (by simpa using hu) fun h' st' sb => ?_
    have I1 : Inv X pins σ H { s with heap := h' } := I.turned (t' := s.toks) (fun b o hb e => (sb.2 b hb).trans e) f0 f1 f3 f4 f5
    obtain ⟨o, e, c, d⟩ := id st'
    exact ⟨u, rfl, go_of (s := { s with heap := h' }) e c d (by decide) ⟨x, H, I1, ru, ⟨rfl, fun ys hy => by rw [I.list_inj hy hq]; exact hx⟩, st', fun b hb => (hf b hb).1⟩⟩
  done := by
    intro X hP hw hK hc i pins s σ H E I hf st hg
    subst hP hw hK
    obtain ⟨xs, hq, hx⟩ := hg
    obtain ⟨its, rv, p, hz⟩ := I.list hq
    obtain ⟨f0, f1, f2, f3, f4, f5⟩ := hf it (by simp)
    have hl := rv.length
    exact wpAny_pyNext_list_end (I.ok.hd hc) st p.isList (by simp; omega) fun h' eb => ⟨rfl, I.turned (t' := s.toks) (fun b o hb e => eb b o hb e) f0 f1 f3 f4 f5⟩
  self := fun _ _ _ _ _ st h => wpAny_pyIter_listiter st h
theorem turn_range {P : Program} {w : World} {K : PySem.W.Frag} {tg : Expr} (it : Addr) (lo : Int) (n : Nat) : Turn P w K tg (Itr lo n) [it] it (fun i h => IsRangeIter h it (lo + (i : Nat) * 1) ((n : Int) - (i : Nat)) 1) where
  mem := by simp
  obj := fun i h st b hb => by
    have e : b = it := by simpa using hb
    subst e
    exact ⟨_, st, fun v z => by
      have z' : Data.fields _ = Data.cell v := z
      cases z'⟩
  keep := fun i h h' st k => k it (by simp) _ st
  item := by
    intro X hP hw hK hc i pins s σ H E I hf st hg
    subst hP hw hK
    obtain ⟨f0, f1, f2, f3, f4, f5⟩ := hf it (by simp)
    have W := Walks.range (prog := X.prog) (w := X.w) (I.ok.hd hc) it lo 1 n
    refine W.item i s _ _ hg st fun v h' tk hv st' kk => ?_
    obtain ⟨t, rfl⟩ := hv
    have I1 : Inv X pins σ H { s with heap := h', toks := tk } := I.turned (fun b o hb e => kk b o (by simpa using hb) e) f0 f1 f3 f4 f5
    refine ⟨_, rfl, go_of (s := { s with heap := h', toks := tk }) (n := "range_iterator") st' rfl rfl (by decide) ⟨.int (lo + i), H, I1, ⟨t, ?_⟩, ⟨rfl, rfl⟩, st', fun b hb => (hf b hb).1⟩⟩
    rw [Int.mul_one]
  done := by
    intro X hP hw hK hc i pins s σ H E I hf st hg
    subst hP hw hK
    obtain ⟨f0, f1, f2, f3, f4, f5⟩ := hf it (by simp)
    exact wpAny_pyNext_range_end (I.ok.hd hc) st (by have : n ≤ i := hg; omega) fun h' eb => ⟨rfl, I.turned (t' := s.toks) (fun b o hb e => eb b o hb e) f0 f1 f3 f4 f5⟩
  self := fun _ _ _ _ _ st h => wpAny_pyIter_rangeiter st h
end L2
namespace L2
open PySem PySem.Spec PyProof.Rows
section
variable {X : Cx} {tg : Expr}
def iList (K : PySem.W.Frag) (tl : TE) : TI := fun σ H R => tl σ H fun x H1 => ∃ a, x = .ref a ∧ (∃ xs, SqL K H1 a xs) ∧ R (Itl K a) H1
theorem pi_list {l : Expr} {tl : TE} (hl : PE X l tl) : PI X tg l (iList X.K tl) := by
  intro pins s σ H R I h
  refine thn (hl pins s σ H _ I h) fun v s1 ⟨x, H1, I1, r1, q1⟩ => ?_
  obtain ⟨a, e, ⟨xs, hq⟩, q⟩ := q1
  subst e
  cases r1
  obtain ⟨its, rv, p, hz⟩ := I1.list hq
  refine wpAny_pyIter_list p.isList ?_
  refine ⟨s1.heap.objs.size, [s1.heap.objs.size], _, _, H1, rfl, I1.kept (t' := s1.toks) fun b o e => Heap.get?_push_of_some _ e, turn_list a _, ⟨_, Heap.get?_push_size _ rfl, rfl, rfl⟩, fun b hb => ?_, q⟩
  have e : b = s1.heap.objs.size := by simpa using hb
  subst e
  exact I1.fpOk (Nat.le_refl _) (I1.hok.fresh (Nat.le_refl _))
theorem range_it {pins : List (Addr × Obj)} {σ : St} {H : Hp} {s : Shared} {R : It → Hp → Prop} {E : Value → Shared → Prop} {lo hi : Int} {t u v : Tok} {tk : Nat} (I : Inv X pins σ H s) (h1 : -(2 ^ 62) ≤ lo) (h2 : lo < 2 ^ 62) (h3 : -(2 ^ 62) ≤ hi) (h4 : hi < 2 ^ 62)
    (q : R (Itr lo (hi - lo).toNat) H) : wpAny (model X.prog X.w) X.A (pyIter (.ref s.heap.objs.size)) (PIE X pins σ tg R) E { s with heap := s.heap.push { cls := .type "range", data := .fields #[.int lo t, .int hi u, .int 1 v] }, toks := tk } := by
  refine wpAny_pyIter_range (IsRange.new ..) (small_one h1 h2 h3 h4) ?_
  have I1 : Inv X pins σ H { s with heap := s.heap.push { cls := .type "range", data := .fields #[.int lo t, .int hi u, .int 1 v] }, toks := tk } := I.kept fun b o e => Heap.get?_push_of_some _ e
  refine ⟨(s.heap.push { cls := .type "range", data := .fields #[.int lo t, .int hi u, .int 1 v] }).objs.size, [(s.heap.push { cls := .type "range", data := .fields #[.int lo t, .int hi u, .int 1 v] }).objs.size], _, _, H, rfl,
    I1.kept (t' := tk) fun b o e => Heap.get?_push_of_some _ e, turn_range _ lo (hi - lo).toNat, ?_, fun b hb => ?_, q⟩
  · have e1 : lo + ((0 : Nat) : Int) * 1 = lo := by simp
    have e2 : (((hi - lo).toNat : Nat) : Int) - ((0 : Nat) : Int) = Builtin.Range.rangeSize lo hi 1 := by rw [rangeSize_one]; split <;> omega
    show IsRangeIter _ _ (lo + ((0 : Nat) : Int) * 1) ((((hi - lo).toNat : Nat) : Int) - ((0 : Nat) : Int)) 1
    rw [e1, e2]
    exact Heap.get?_push_size _ rfl
  · have e : b = (s.heap.push { cls := .type "range", data := .fields #[.int lo t, .int hi u, .int 1 v] }).objs.size := by simpa using hb
    subst e
    exact I1.fpOk (Nat.le_refl _) (I1.hok.fresh (Nat.le_refl _))
def iRng1 (ta : TA) : TI := fun σ H R => ta σ H fun vs H1 => ∃ j : Int, vs = [.int j] ∧ -(2 ^ 62) ≤ j ∧ j < 2 ^ 62 ∧ R (Itr 0 j.toNat) H1
theorem pi_range1 {a : Expr} {ta : TA} {p pos : Pos} (hg : Gl X "range") (hm : X.mg "range" = none) (ha : PA X [a] ta) (hs : starEach [a] X.env = [(false, eval a X.env)] := by rfl) : PI X tg (.Call (.Name "range" p) [a] [] pos) (iRng1 ta) := by
  intro pins s σ H R I h
  refine Call_ (ld_blt I hg hm boot_range (PyProof.Rows.callWith_type1 (thn (ha pos pins s σ H _ I h) fun us s1 ⟨vs, H1, I1, r1, q1⟩ => ?_) hs rfl))
  obtain ⟨j, e, q1, q2, q⟩ := q1
  subst e
  cases r1 with
  | cons r rr =>
    cases rr
    obtain ⟨t, rfl⟩ := r
    exact call_range_1 (range_it I1 (by omega) (by omega) q1 q2 (by simpa using q))
def tFor (wi : TI) (g : TG) (tb : TS) : TS := fun D σ H => wi σ H fun J H1 => ∃ W : Nat → Nat → St → Hp → Prop, (∃ m, W 0 m σ H1) ∧ ∀ i m σ H, W i m σ H →
  (J.stop i H ∧ D.nx σ H) ∨ (J.go i H ∧ ∃ N : St → Hp → Prop, (∀ σ' H', N σ' H' → ∃ m', m' < m ∧ W (i + 1) m' σ' H') ∧ ∀ x H', J.yld i H x H' → g x σ H' fun σ2 H2 => tb { D with nx := N, ct := N, bk := D.nx } σ2 H2)
def pinsAt (fp : List Addr) (h : Heap) : List (Addr × Obj) := fp.filterMap fun b => (h.get? b).map fun o => (b, o)
theorem mem_pinsAt {fp : List Addr} {h : Heap} {b : Addr} {o : Obj} (hb : b ∈ fp) (e : h.get? b = some o) : (b, o) ∈ pinsAt fp h := List.mem_filterMap.mpr ⟨b, hb, by rw [e]; rfl⟩
theorem of_pinsAt {fp : List Addr} {h : Heap} {p : Addr × Obj} (hp : p ∈ pinsAt fp h) : p.1 ∈ fp ∧ h.get? p.1 = some p.2 := by
  obtain ⟨b, hb, e⟩ := List.mem_filterMap.mp hp
  cases q : h.get? b with
  | none => rw [q] at e; cases e
  | some o =>
    rw [q] at e
    have e' : (b, o) = p := Option.some.inj e
    subst e'
    exact ⟨hb, q⟩
theorem Inv.pinned {pins : List (Addr × Obj)} {σ : St} {H : Hp} {s : Shared} {fp : List Addr} (I : Inv X pins σ H s) (hf : ∀ b ∈ fp, FpOk X pins H b) (ho : ∀ b ∈ fp, ∃ o, s.heap.get? b = some o ∧ ∀ v, o.data ≠ .cell v) : Inv X (pins ++ pinsAt fp s.heap) σ H s :=
  I.pins_of fun p hp => (List.mem_append.mp hp).elim (fun z => I.pin p (List.mem_append_right _ z)) fun z => by
    obtain ⟨hb, e⟩ := of_pinsAt z
    obtain ⟨f0, f1, f2, _⟩ := hf p.1 hb
    obtain ⟨o, e', d⟩ := ho p.1 hb
    rw [e] at e'; cases e'
    exact ⟨e, f0, f1, f2, d⟩
theorem Inv.unpinned {pins pl : List (Addr × Obj)} {σ : St} {H : Hp} {s : Shared} (I : Inv X (pins ++ pl) σ H s) : Inv X pins σ H s := I.pins_of fun p hp => I.pin p (List.mem_append_right _ (List.mem_append_left _ hp))
theorem ps_for {iter : Expr} {body : List Stmt} {wi : TI} {g : TG} {tb : TS} {pos : Pos} (hp : PassesOwn (model X.prog X.w) X.A X.env X.xe) (hc : X.calm = true) (hi : PI X tg iter wi) (hg : PG X tg g) (hb : PSs X body tb)
    (hs : ∀ x, foldedSetIterable iter X.env x = pure x := by intro _; rfl) : PS X (.For tg iter body [] pos) (tFor wi g tb) := by
  intro pins s σ H D I h
  refine wpAny_For (thn (hi pins s σ H _ I h) fun v s1 h1 => thn h1 fun itv s2 h2 => ?_) hs
  obtain ⟨it, fp, tn, J, H2, e, I2, T, st2, f2, W, ⟨m0, w0⟩, turn⟩ := h2
  subst e
  -- what stays true of the iterator's objects through the loop
  have stat : ∀ {H' : Hp}, (∀ b ∈ fp, H' b = none) → ∀ b ∈ fp, FpOk X pins H' b := fun hn b hb => ⟨hn b hb, (f2 b hb).2⟩
  refine codeAny_forLoop_any (fun n s' => ∃ i σ' H', Inv X pins σ' H' s' ∧ tn i s'.heap ∧ (∀ b ∈ fp, H' b = none) ∧ W i n σ' H') ?_ m0 ⟨0, σ, H2, I2, st2, fun b hb => (f2 b hb).1, w0⟩
  rintro n s3 ⟨i, σ3, H3, I3, st3, fr3, w3⟩
  rcases turn i n σ3 H3 w3 with ⟨stop, qn⟩ | ⟨go, N, hN, step⟩
  · refine wpAny_passesOwn hp (thn (T.done X rfl rfl rfl hc i pins s3 σ3 H3 X.xe I3 (stat fr3) st3 stop) fun r s4 ⟨hr, I4⟩ => ?_)
    subst hr
    exact wpAny_execs_nil ⟨σ3, H3, I4, qn⟩
  · refine wpAny_passesOwn hp (thn (T.item X rfl rfl rfl hc i pins s3 σ3 H3 X.xe I3 (stat fr3) st3 go) fun r s4 ⟨u, hr, h4⟩ => ?_)
    subst hr
    refine wpAny_passesOwn hp (thn h4 fun _ s5 ⟨x, H5, I5, r5, y5, st5, fr5⟩ => ?_)
    have I5' := I5.pinned (stat fr5) (T.obj _ _ st5)
    refine wpAny_passesOwn hp (thn (hg _ s5 σ3 H5 x u _ I5' r5 (step x H5 y5)) fun _ s6 ⟨σ6, H6, I6, q6⟩ => ?_)
    refine wpAny_passesOwn hp (thn (hb _ s6 σ6 H6 _ I6 q6) fun f s7 q7 => ?_)
    have again : ∀ {σ7 : St} {H7 : Hp}, Inv X (pins ++ pinsAt fp s5.heap) σ7 H7 s7 → N σ7 H7 → ∃ m, m < n ∧ ∃ i σ' H', Inv X pins σ' H' s7 ∧ tn i s7.heap ∧ (∀ b ∈ fp, H' b = none) ∧ W i m σ' H' := fun {σ7 H7} I7 n7 => by
      obtain ⟨m', hm, w7⟩ := hN σ7 H7 n7
      refine ⟨m', hm, i + 1, σ7, H7, I7.unpinned, T.keep _ _ _ st5 fun b hb o e => (I7.pin (b, o) (List.mem_append_right _ (List.mem_append_right _ (mem_pinsAt hb e)))).1, fun b hb => ?_, w7⟩
      obtain ⟨o, e, d⟩ := T.obj _ _ st5 b hb
      exact (I7.pin (b, o) (List.mem_append_right _ (List.mem_append_right _ (mem_pinsAt hb e)))).2.1
    cases f with
    | next => obtain ⟨σ7, H7, I7, n7⟩ := q7; exact again I7 n7
    | cont => obtain ⟨σ7, H7, I7, n7⟩ := q7; exact again I7 n7
    | brk => obtain ⟨σ7, H7, I7, q7⟩ := q7; exact ⟨σ7, H7, I7.unpinned, q7⟩
    | ret v => obtain ⟨x7, σ7, H7, I7, r7, q7⟩ := q7; exact ⟨x7, σ7, H7, I7.unpinned, r7, q7⟩
end
theorem for_list {K : PySem.W.Frag} {a : Addr} {xs : List V} {g : TG} {tb : TS} {D : Ends} {σ : St} {H : Hp} (Pv : Nat → St → Hp → Prop) (h0 : Pv 0 σ H) (hl : ∀ i σ H, i ≤ xs.length → Pv i σ H → SqL K H a xs)
    (hs : ∀ i x σ H, xs[i]? = some x → Pv i σ H → g x σ H fun σ2 H2 => tb { D with nx := Pv (i + 1), ct := Pv (i + 1), bk := D.nx } σ2 H2) (hd : ∀ σ H, Pv xs.length σ H → D.nx σ H) :
    ∃ W : Nat → Nat → St → Hp → Prop, (∃ m, W 0 m σ H) ∧ ∀ i m σ H, W i m σ H →
      ((Itl K a).stop i H ∧ D.nx σ H) ∨ ((Itl K a).go i H ∧ ∃ N : St → Hp → Prop, (∀ σ' H', N σ' H' → ∃ m', m' < m ∧ W (i + 1) m' σ' H') ∧ ∀ x H', (Itl K a).yld i H x H' → g x σ H' fun σ2 H2 => tb { D with nx := N, ct := N, bk := D.nx } σ2 H2) := by
  refine ⟨fun i m σ H => m = xs.length - i ∧ i ≤ xs.length ∧ Pv i σ H, ⟨xs.length, by simp, Nat.zero_le _, h0⟩, ?_⟩
  rintro i m σ H ⟨rfl, hi, p⟩
  have q := hl i σ H hi p
  by_cases hlt : i < xs.length
  · refine .inr ⟨⟨xs, xs[i], q, by simp [hlt]⟩, Pv (i + 1), fun σ' H' p' => ⟨xs.length - (i + 1), by omega, rfl, hlt, p'⟩, fun x H' y => ?_⟩
    obtain ⟨e, y⟩ := y
    subst e
    exact hs i x σ _ (y xs q) p
  · have e : i = xs.length := by omega
    subst e
    exact .inl ⟨⟨xs, q, Nat.le_refl _⟩, hd σ H p⟩
theorem for_range {lo : Int} {n : Nat} {g : TG} {tb : TS} {D : Ends} {σ : St} {H : Hp} (Pv : Nat → St → Hp → Prop) (h0 : Pv 0 σ H)
    (hs : ∀ i σ H, i < n → Pv i σ H → g (.int (lo + i)) σ H fun σ2 H2 => tb { D with nx := Pv (i + 1), ct := Pv (i + 1), bk := D.nx } σ2 H2) (hd : ∀ σ H, Pv n σ H → D.nx σ H) :
    ∃ W : Nat → Nat → St → Hp → Prop, (∃ m, W 0 m σ H) ∧ ∀ i m σ H, W i m σ H →
      ((Itr lo n).stop i H ∧ D.nx σ H) ∨ ((Itr lo n).go i H ∧ ∃ N : St → Hp → Prop, (∀ σ' H', N σ' H' → ∃ m', m' < m ∧ W (i + 1) m' σ' H') ∧ ∀ x H', (Itr lo n).yld i H x H' → g x σ H' fun σ2 H2 => tb { D with nx := N, ct := N, bk := D.nx } σ2 H2) := by
  refine ⟨fun i m σ H => m = n - i ∧ i ≤ n ∧ Pv i σ H, ⟨n, by simp, Nat.zero_le _, h0⟩, ?_⟩
  rintro i m σ H ⟨rfl, hi, p⟩
  by_cases hlt : i < n
  · refine .inr ⟨hlt, Pv (i + 1), fun σ' H' p' => ⟨n - (i + 1), by omega, rfl, hlt, p'⟩, fun x H' y => ?_⟩
    obtain ⟨e, y⟩ := y
    subst e y
    exact hs i σ _ hlt p
  · have e : i = n := by omega
    subst e
    exact .inl ⟨Nat.le_refl _, hd σ H p⟩
end L2
namespace L2
open PySem PySem.Spec PyProof.Rows
abbrev R2 := V → V → Hp → VK → Prop
def OpR (X : Cx) (f : Value → Value → Sem Value) (r : R2) : Prop :=
  ∀ (pins : List (Addr × Obj)) (s : Shared) (σ : St) (H : Hp) (x y : V) (v u : Value) (Q : VK), Inv X pins σ H s → RelV x v → RelV y u → r x y H Q →
    wpAny (model X.prog X.w) X.A (f v u) (EP X pins σ Q) X.xe s
def UnR (X : Cx) (f : Value → Sem Value) (r : V → Hp → VK → Prop) : Prop :=
  ∀ (pins : List (Addr × Obj)) (s : Shared) (σ : St) (H : Hp) (x : V) (v : Value) (Q : VK), Inv X pins σ H s → RelV x v → r x H Q →
    wpAny (model X.prog X.w) X.A (f v) (EP X pins σ Q) X.xe s
def CallR (X : Cx) (f : Value) (r : List V → Hp → VK → Prop) : Prop :=
  ∀ (pins : List (Addr × Obj)) (s : Shared) (σ : St) (H : Hp) (xs : List V) (us : List Value) (Q : VK), Inv X pins σ H s → Vals xs us → r xs H Q →
    wpAny (model X.prog X.w) X.A (call f us) (EP X pins σ Q) X.xe s
def tOp (r : R2) (ta tb : TE) : TE := fun σ H Q => ta σ H fun x H1 => tb σ H1 fun y H2 => r x y H2 Q
def tUn (r : V → Hp → VK → Prop) (ta : TE) : TE := fun σ H Q => ta σ H fun x H1 => r x H1 Q
def rI (C : Int → Int → Prop) (g : Int → Int → V) : R2 := fun x y H Q => ∃ i j, x = .int i ∧ y = .int j ∧ C i j ∧ Q (g i j) H
def rI0 (g : Int → Int → V) : R2 := fun x y H Q => ∃ i j, x = .int i ∧ y = .int j ∧ Q (g i j) H
def rU (g : Int → V) : V → Hp → VK → Prop := fun x H Q => ∃ i, x = .int i ∧ Q (g i) H
section
variable {X : Cx} {a b c : Expr} {ta tb tc : TE} {pos : Pos}
theorem binT (ha : PE X a ta) (hb : PE X b tb) {pins : List (Addr × Obj)} {s : Shared} {σ : St} {H : Hp} {R : V → V → Hp → Prop} (I : Inv X pins σ H s)
    (h : ta σ H fun x H1 => tb σ H1 fun y H2 => R x y H2) {Q : Value → Shared → Prop} {f : Value → Value → Sem Value}
    (hf : ∀ v u s2 x y H2, Inv X pins σ H2 s2 → RelV x v → RelV y u → R x y H2 → wpAny (model X.prog X.w) X.A (f v u) Q X.xe s2) :
    wpAny (model X.prog X.w) X.A (eval a X.env) (fun v s₁ => wpAny (model X.prog X.w) X.A (eval b X.env) (fun u s₂ => wpAny (model X.prog X.w) X.A (f v u) Q X.xe s₂) X.xe s₁) X.xe s := by
  refine thn (ha pins s σ H _ I h) fun v s1 ⟨x, H1, I1, r1, q1⟩ => ?_
  refine thn (hb pins s1 σ H1 _ I1 q1) fun u s2 ⟨y, H2, I2, r2, q2⟩ => ?_
  exact hf v u s2 x y H2 I2 r1 r2 q2
theorem pe_op {op : Operator} {r : R2} (ho : OpR X (binaryOp op) r) (ha : PE X a ta) (hb : PE X b tb) : PE X (.BinOp a op b pos) (tOp r ta tb) := by
  intro pins s σ H Q I h
  exact wpAny_BinOp (binT ha hb I h fun v u s2 x y H2 I2 rx ry q => ho pins s2 σ H2 x y v u Q I2 rx ry q)
theorem pe_un {op : UnaryOp} {r : V → Hp → VK → Prop} (ho : UnR X (unaryOp op) r) (ha : PE X a ta) : PE X (.UnaryOp op a pos) (tUn r ta) := by
  intro pins s σ H Q I h
  exact UnaryOp_ (thn (ha pins s σ H _ I h) fun v s1 ⟨x, H1, I1, r1, q1⟩ => ho pins s1 σ H1 x v Q I1 r1 q1)
theorem opI {f : Value → Value → Sem Value} {C : Int → Int → Prop} {g : Int → Int → Int}
    (rule : ∀ (i j : Int) (t u : Tok) (s : Shared) (Q : Value → Shared → Prop) (E : Value → Shared → Prop), C i j → Q (.int (g i j) s.toks) { s with toks := s.toks + 1 } → wpAny (model X.prog X.w) X.A (f (.int i t) (.int j u)) Q E s) :
    OpR X f (rI C fun i j => .int (g i j)) := by
  intro pins s σ H x y v u Q I rx ry h
  obtain ⟨i, j, rfl, rfl, hc, q⟩ := h
  obtain ⟨t, rfl⟩ := rx
  obtain ⟨t', rfl⟩ := ry
  exact rule i j t t' s _ _ hc ⟨.int (g i j), H, I.tok _, ⟨_, rfl⟩, q⟩
theorem opI0 {f : Value → Value → Sem Value} {g : Int → Int → Int}
    (rule : ∀ (i j : Int) (t u : Tok) (s : Shared) (Q : Value → Shared → Prop) (E : Value → Shared → Prop), Q (.int (g i j) s.toks) { s with toks := s.toks + 1 } → wpAny (model X.prog X.w) X.A (f (.int i t) (.int j u)) Q E s) :
    OpR X f (rI0 fun i j => .int (g i j)) := by
  intro pins s σ H x y v u Q I rx ry h
  obtain ⟨i, j, rfl, rfl, q⟩ := h
  obtain ⟨t, rfl⟩ := rx
  obtain ⟨t', rfl⟩ := ry
  exact rule i j t t' s _ _ ⟨.int (g i j), H, I.tok _, ⟨_, rfl⟩, q⟩
theorem opB0 {f : Value → Value → Sem Value} {g : Int → Int → Bool}
    (rule : ∀ (i j : Int) (t u : Tok) (s : Shared) (Q : Value → Shared → Prop) (E : Value → Shared → Prop), Q (.bool (g i j)) s → wpAny (model X.prog X.w) X.A (f (.int i t) (.int j u)) Q E s) :
    OpR X f (rI0 fun i j => .bl (g i j)) := by
  intro pins s σ H x y v u Q I rx ry h
  obtain ⟨i, j, rfl, rfl, q⟩ := h
  obtain ⟨t, rfl⟩ := rx
  obtain ⟨t', rfl⟩ := ry
  exact rule i j t t' s _ _ ⟨.bl (g i j), H, I, rfl, q⟩
def CPow (i j : Int) : Prop := 0 ≤ j ∧ j ≤ 1000000 ∧ i.natAbs < 2 ^ 64
def CMul (i j : Int) : Prop := (-(2 ^ 64) < i ∧ i < 2 ^ 64) ∨ (-(2 ^ 64) < j ∧ j < 2 ^ 64)
theorem CMul.ok {i j : Int} (h : CMul i j) : IntMulOk i j := by
  rcases h with ⟨h1, h2⟩ | ⟨h1, h2⟩
  · exact .of_left (intBits_le_64 h1 h2)
  · exact .of_right (intBits_le_64 h1 h2)
theorem op_add : OpR X (binaryOp .Add) (rI0 fun i j => .int (i + j)) := opI0 fun _ _ _ _ _ _ _ q => add_int q
theorem op_sub : OpR X (binaryOp .Sub) (rI0 fun i j => .int (i - j)) := opI0 fun _ _ _ _ _ _ _ q => sub_int q
theorem op_mul : OpR X (binaryOp .Mult) (rI CMul fun i j => .int (i * j)) := opI fun _ _ _ _ _ _ _ hc q => mul_int q hc.ok
theorem op_mod : OpR X (binaryOp .Mod) (rI (fun _ j => 0 < j) fun i j => .int (i % j)) := opI fun i j _ _ _ _ _ hc q => by
  have h1 : (0 : Int) < j := hc
  exact mod_int' (by omega) (by rw [Int.fmod_eq_emod_of_nonneg i (by omega)]; exact q)
theorem op_pow : OpR X (binaryOp .Pow) (rI CPow fun i j => .int (i ^ j.toNat)) := opI fun _ _ _ _ _ _ _ hc q => pow_int_small hc.1 hc.2.1 hc.2.2 q
theorem op_xor : OpR X (binaryOp .BitXor) (rI0 fun i j => .int (Builtin.bitXor i j)) := opI0 fun _ _ _ _ _ _ _ q => xor_int q
theorem unI {f : Value → Sem Value} {g : Int → Int}
    (rule : ∀ (i : Int) (t : Tok) (s : Shared) (Q : Value → Shared → Prop) (E : Value → Shared → Prop), Q (.int (g i) s.toks) { s with toks := s.toks + 1 } → wpAny (model X.prog X.w) X.A (f (.int i t)) Q E s) :
    UnR X f (rU fun i => .int (g i)) := by
  intro pins s σ H x v Q I rx h
  obtain ⟨i, rfl, q⟩ := h
  obtain ⟨t, rfl⟩ := rx
  exact rule i t s _ _ ⟨.int (g i), H, I.tok _, ⟨_, rfl⟩, q⟩
theorem un_neg : UnR X (unaryOp .USub) (rU fun i => .int (-i)) := unI fun _ _ _ _ _ q => neg_int q
end
def scal : V → V → Bool
  | .non, .non => true | .non, .int _ => true | .int _, .non => true | .non, .bl _ => true | .bl _, .non => true | .non, .str _ => true | .str _, .non => true
  | .int _, .int _ => true | .bl _, .bl _ => true | .str _, .str _ => true | .byt _, .byt _ => true
  | .int _, .str _ => true | .str _, .int _ => true | .bl _, .str _ => true | .str _, .bl _ => true
  | _, _ => false
def rEq : R2 := fun x y H Q => scal x y = true ∧ Q (.bl (decide (x = y))) H
def rNe : R2 := fun x y H Q => scal x y = true ∧ Q (.bl (!decide (x = y))) H
theorem dec_int {i j : Int} : decide (V.int i = V.int j) = (i == j) := by
  rw [Bool.eq_iff_iff]
  simp
theorem dec_bl {i j : Bool} : decide (V.bl i = V.bl j) = (i == j) := by
  rw [Bool.eq_iff_iff]
  simp
theorem dec_str {i j : Str} : decide (V.str i = V.str j) = (i == j) := by
  rw [Bool.eq_iff_iff]
  simp
theorem dec_byt {i j : Array UInt8} : decide (V.byt i = V.byt j) = (i.toList == j.toList) := by
  rw [Bool.eq_iff_iff]
  cases i
  cases j
  simp
section
variable {X : Cx} {a b c : Expr} {ta tb tc : TE} {pos : Pos}
theorem fin_bl {pins : List (Addr × Obj)} {σ : St} {H : Hp} {s : Shared} {Q : VK} {k k' : Bool} (I : Inv X pins σ H s) (q : Q (.bl k) H) (e : k = k') : EP X pins σ Q (.bool k') s := by
  subst e
  exact ⟨.bl k, H, I, rfl, q⟩
theorem op_eq : OpR X (compareOp .Eq) rEq := by
  intro pins s σ H x y v u Q I rx ry h
  obtain ⟨hs, q⟩ := h
  cases x with
  | non =>
    cases rx
    cases y with
    | non => cases ry; exact PySem.EqNone.eq_none_none (fin_bl I q (by simp))
    | bl j => cases ry; exact PySem.EqNone.eq_none_bool (fin_bl I q (by simp))
    | int j => obtain ⟨t', rfl⟩ := ry; exact PySem.EqNone.eq_none_int (fin_bl I q (by simp))
    | str j => obtain ⟨t', rfl⟩ := ry; exact PySem.EqNone.eq_none_str (fin_bl I q (by simp))
    | _ => exact absurd (show false = true from hs) Bool.false_ne_true
  | bl i =>
    cases rx
    cases y with
    | non => cases ry; exact PySem.EqNone.eq_bool_none (fin_bl I q (by simp))
    | bl j => cases ry; exact eq_bool (fin_bl I q dec_bl)
    | str j => obtain ⟨t', rfl⟩ := ry; exact PySem.EqMixed.eq_bool_str (fin_bl I q (by simp))
    | _ => exact absurd (show false = true from hs) Bool.false_ne_true
  | int i =>
    obtain ⟨t, rfl⟩ := rx
    cases y with
    | non => cases ry; exact PySem.EqNone.eq_int_none (fin_bl I q (by simp))
    | int j => obtain ⟨t', rfl⟩ := ry; exact eq_int (fin_bl I q dec_int)
    | str j => obtain ⟨t', rfl⟩ := ry; exact PySem.EqMixed.eq_int_str (fin_bl I q (by simp))
    | _ => exact absurd (show false = true from hs) Bool.false_ne_true
  | str i =>
    obtain ⟨t, rfl⟩ := rx
    cases y with
    | non => cases ry; exact PySem.EqNone.eq_str_none (fin_bl I q (by simp))
    | bl j => cases ry; exact PySem.EqMixed.eq_str_bool (fin_bl I q (by simp))
    | int j => obtain ⟨t', rfl⟩ := ry; exact PySem.EqMixed.eq_str_int (fin_bl I q (by simp))
    | str j => obtain ⟨t', rfl⟩ := ry; exact eq_str (fin_bl I q dec_str)
    | _ => exact absurd (show false = true from hs) Bool.false_ne_true
  | byt i =>
    obtain ⟨t, rfl⟩ := rx
    cases y with
    | byt j => obtain ⟨t', rfl⟩ := ry; exact PySem.W.eq_bytes (fin_bl I q dec_byt)
    | _ => exact absurd (show false = true from hs) Bool.false_ne_true
  | _ => cases y <;> exact absurd (show false = true from hs) Bool.false_ne_true
theorem op_ne : OpR X (compareOp .NotEq) rNe := by
  intro pins s σ H x y v u Q I rx ry h
  obtain ⟨hs, q⟩ := h
  cases x with
  | non =>
    cases rx
    cases y with
    | non => cases ry; exact PySem.EqNone.ne_none_none (fin_bl I q (by simp))
    | bl j => cases ry; exact PySem.EqNone.ne_none_bool (fin_bl I q (by simp))
    | int j => obtain ⟨t', rfl⟩ := ry; exact PySem.EqNone.ne_none_int (fin_bl I q (by simp))
    | str j => obtain ⟨t', rfl⟩ := ry; exact PySem.EqNone.ne_none_str (fin_bl I q (by simp))
    | _ => exact absurd (show false = true from hs) Bool.false_ne_true
  | bl i =>
    cases rx
    cases y with
    | non => cases ry; exact PySem.EqNone.ne_bool_none (fin_bl I q (by simp))
    | bl j => cases ry; exact ne_bool (fin_bl I q (congrArg not dec_bl))
    | str j => obtain ⟨t', rfl⟩ := ry; exact PySem.EqMixed.ne_bool_str (fin_bl I q (by simp))
    | _ => exact absurd (show false = true from hs) Bool.false_ne_true
  | int i =>
    obtain ⟨t, rfl⟩ := rx
    cases y with
    | non => cases ry; exact PySem.EqNone.ne_int_none (fin_bl I q (by simp))
    | int j => obtain ⟨t', rfl⟩ := ry; exact ne_int (fin_bl I q (congrArg not dec_int))
    | str j => obtain ⟨t', rfl⟩ := ry; exact PySem.EqMixed.ne_int_str (fin_bl I q (by simp))
    | _ => exact absurd (show false = true from hs) Bool.false_ne_true
  | str i =>
    obtain ⟨t, rfl⟩ := rx
    cases y with
    | non => cases ry; exact PySem.EqNone.ne_str_none (fin_bl I q (by simp))
    | bl j => cases ry; exact PySem.EqMixed.ne_str_bool (fin_bl I q (by simp))
    | int j => obtain ⟨t', rfl⟩ := ry; exact PySem.EqMixed.ne_str_int (fin_bl I q (by simp))
    | str j => obtain ⟨t', rfl⟩ := ry; exact ne_str (fin_bl I q (congrArg not dec_str))
    | _ => exact absurd (show false = true from hs) Bool.false_ne_true
  | byt i =>
    obtain ⟨t, rfl⟩ := rx
    cases y with
    | byt j => obtain ⟨t', rfl⟩ := ry; exact PySem.W.ne_bytes (fin_bl I q (congrArg not dec_byt))
    | _ => exact absurd (show false = true from hs) Bool.false_ne_true
  | _ => cases y <;> exact absurd (show false = true from hs) Bool.false_ne_true
theorem op_lt : OpR X (compareOp .Lt) (rI0 fun i j => .bl (decide (i < j))) := opB0 fun _ _ _ _ _ _ _ q => lt_int q
theorem op_gt : OpR X (compareOp .Gt) (rI0 fun i j => .bl (decide (j < i))) := opB0 fun _ _ _ _ _ _ _ q => gt_int q
theorem op_ge : OpR X (compareOp .GtE) (rI0 fun i j => .bl (decide (j ≤ i))) := opB0 fun _ _ _ _ _ _ _ q => ge_int q
theorem nomark (b : Expr) {op : CmpOp} (h : op ≠ .In := by decide) (h2 : op ≠ .NotIn := by decide) : behindInMarks op b = false := by
  have e1 : (op == CmpOp.In) = false := by cases op <;> first | rfl | exact absurd rfl h
  have e2 : (op == CmpOp.NotIn) = false := by cases op <;> first | rfl | exact absurd rfl h2
  cases b <;> simp [behindInMarks, e1, e2]
theorem pe_cmpR {op : CmpOp} {r : R2} (ho : OpR X (compareOp op) r) (ha : PE X a ta) (hb : PE X b tb) (hm : behindInMarks op b = false) : PE X (.Compare a [op] [b] pos) (tOp r ta tb) := by
  intro pins s σ H Q I h
  exact wpAny_Compare1 (binT ha hb I h fun v u s2 x y H2 I2 rx ry q => ho pins s2 σ H2 x y v u Q I2 rx ry q) hm
def tTest (t : TE) : TT := fun σ H Q => t σ H fun x H' => ∃ k, x = .bl k ∧ Q k H'
theorem pt_cmpR {op : CmpOp} {r : R2} (ho : OpR X (compareOp op) r) (ha : PE X a ta) (hb : PE X b tb) (hm : behindInMarks op b = false) : PT X (.Compare a [op] [b] pos) (tTest (tOp r ta tb)) := by
  intro pins s σ H Q I h
  refine wpAny_isTrue_Compare1 (thn (ha pins s σ H _ I h) fun v s1 ⟨x, H1, I1, r1, q1⟩ => thn (hb pins s1 σ H1 _ I1 q1) fun u s2 ⟨y, H2, I2, r2, q2⟩ =>
    thn (ho pins s2 σ H2 x y v u _ I2 r1 r2 q2) fun c s3 ⟨z, H3, I3, r3, k, e, q3⟩ => ?_) hm
  subst e
  cases r3
  exact wpAny_truthy_bool ⟨H3, I3, q3⟩
theorem line63 : (sizeLine : Nat) < 2 ^ 63 := by rw [sizeLine_eq]; decide
theorem vals1 {x : V} {us : List Value} (r : Vals [x] us) : ∃ u, us = [u] ∧ RelV x u := by
  cases r with
  | cons r1 r2 => cases r2; exact ⟨_, rfl, r1⟩
theorem vals2 {x y : V} {us : List Value} (r : Vals [x, y] us) : ∃ u w', us = [u, w'] ∧ RelV x u ∧ RelV y w' := by
  cases r with
  | cons r1 r2 =>
    cases r2 with
    | cons r3 r4 => cases r4; exact ⟨_, _, rfl, r1, r3⟩
theorem call_max2 (hc : X.calm = true) : CallR X (.builtin "max") (fun xs H Q => ∃ i j, xs = [.int i, .int j] ∧ Q (.int (if j > i then j else i)) H) := by
  intro pins s σ H xs us Q I r h
  obtain ⟨i, j, rfl, q⟩ := h
  obtain ⟨u, w', rfl, ⟨t, rfl⟩, ⟨t', rfl⟩⟩ := vals2 r
  refine max_two_ints (I.ok.hd hc) fun h' tk k => ⟨_, H, I.kept k, ?_, q⟩
  by_cases hj : j > i
  · rw [if_pos hj, if_pos hj]; exact ⟨_, rfl⟩
  · rw [if_neg hj, if_neg hj]; exact ⟨_, rfl⟩
theorem call_min2 (hc : X.calm = true) : CallR X (.builtin "min") (fun xs H Q => ∃ i j, xs = [.int i, .int j] ∧ Q (.int (if j < i then j else i)) H) := by
  intro pins s σ H xs us Q I r h
  obtain ⟨i, j, rfl, q⟩ := h
  obtain ⟨u, w', rfl, ⟨t, rfl⟩, ⟨t', rfl⟩⟩ := vals2 r
  refine min_two_ints (I.ok.hd hc) fun h' tk k => ⟨_, H, I.kept k, ?_, q⟩
  by_cases hj : j < i
  · rw [if_pos hj, if_pos hj]; exact ⟨_, rfl⟩
  · rw [if_neg hj, if_neg hj]; exact ⟨_, rfl⟩
end
end L2
namespace L2
open PySem PySem.Spec PyProof.Rows
structure ObjM (h : Heap) (x dx C : Addr) (mA : Str → Option Value) : Prop where
  obj : h.get? x = some (PySem.W.instObj C dx)
  ns : h.Ns1 dx mA
  ne : dx ≠ x
theorem lookIn_ns {h : Heap} {dx : Addr} {mA : Str → Option Value} (n : h.Ns1 dx mA) : ∃ od, h.get? dx = some od ∧ ∀ name, PySem.W.lookIn name od = some (mA name) := by
  obtain ⟨o, es, ep, ho, hd, hk, _, hm⟩ := n
  refine ⟨o, ho, fun name => ?_⟩
  have e := hm name
  unfold nsFind findBy at e
  rw [← Array.find?_toList] at e
  unfold PySem.W.lookIn
  rw [hd]
  dsimp only
  split
  · rename_i y q
    rw [q] at e
    exact congrArg some e
  · rename_i q
    rw [q] at e
    have a : es.toList.any (·.refKey) = false := by
      rw [List.any_eq_false]
      intro y hy
      obtain ⟨z, t, hkey⟩ := hk y (Array.mem_toList_iff.mp hy)
      simp [DictEntry.refKey, hkey]
    have a' : ¬ es.toList.any (·.refKey) = true := by rw [a]; exact Bool.false_ne_true
    rw [if_neg a']
    exact congrArg some e
theorem ObjM.look {h : Heap} {x dx C : Addr} {mA : Str → Option Value} (I : ObjM h x dx C mA) : ∃ od, PySem.W.InstAt h x (PySem.W.instObj C dx) C (some od) ∧ ∀ name, PySem.W.lookIn name od = some (mA name) :=
  let ⟨od, ho, hl⟩ := lookIn_ns I.ns
  ⟨od, ⟨I.obj, rfl, rfl, ho⟩, hl⟩
section
variable {prog : Program} {w : World} {A : Around} {E : Value → Shared → Prop} {s : Shared} {K : PySem.W.Frag} {x dx C f : Addr} {mA : Str → Option Value} {name : Str} {v : Value}
theorem get_map {expr : Bool} {Q : Value → Shared → Prop} (X : K.In s.heap) (I : ObjM s.heap x dx C mA) (hg : PySem.W.plainGet K C name = true) (hh : PySem.W.hasDictIn K C = true)
    (ha : PySem.W.findIn K (.ref C) name = some none) (hv : mA name = some v) (hv' : PySem.W.handedIn v = true) (h : Q v { s with toks := s.toks + 1 }) :
    wpAny (model prog w) A (getAttr (.ref x) name expr) Q E s := by
  obtain ⟨od, J, hl⟩ := I.look
  exact PySem.W.get_value X J (PySem.W.plainGet_of hg).1 (PySem.W.findObj_own hh ha rfl (by rw [hl, hv])) hv' h
theorem get_meth {pl : Sem Bool} {Q : Value × List Value → Shared → Prop} (X : K.In s.heap) (I : ObjM s.heap x dx C mA) (hg : PySem.W.plainGet K C name = true)
    (hf : PySem.W.findIn K (.ref C) name = some (some (.ref f))) (ht : PySem.W.isFn K (.ref f) = true) (hv : mA name = none) (h : Q (.ref f, [.ref x]) s) :
    wpAny (model prog w) A (getMethod (.ref x) name pl) Q E s := by
  obtain ⟨od, J, hl⟩ := I.look
  exact PySem.W.method_fn X J (PySem.W.plainGet_of hg).1 (PySem.W.plainGet_of hg).2 hf (beq_iff_eq.mp ht) (by show (PySem.W.lookIn name od).map (·.isSome) = some false; rw [hl, hv]; rfl) h
theorem set_map {ns : List Str} {Q : Unit → Shared → Prop} (X : K.In s.heap) (I : ObjM s.heap x dx C mA)
    (hs : PySem.W.findIn K (.ref C) "__setattr__" = some (some (.builtin "object.__setattr__"))) (hp : PySem.W.plainOver K C = true) (ht : PySem.W.takerIn K C name = some none) (hh : PySem.W.hasDictIn K C = true)
    (hw : PySem.Within mA ns) (hsz : ns.length ≤ sizeLine)
    (h : ∀ h', ObjM h' x dx C (fun y => if y = name then some v else mA y) → Heap.SameBut dx s.heap h' → Q () { s with heap := h', toks := s.toks + 2 }) :
    wpAny (model prog w) A (setAttr (.ref x) name v) Q E s := by
  obtain ⟨od, J, hl⟩ := I.look
  refine PySem.W.set_plain X J hs (PySem.W.osa_open (s := { s with toks := s.toks + 1 }) (r := none) X J hp ht fun b => ?_)
  obtain ⟨cd, hc, hd'⟩ := PySem.W.any_some hh
  have hx : s.heap.get? x = some ⟨.ref C, some dx, .plain, #[]⟩ := I.obj
  refine wpAny_bind (wpAny_pure (wpAny_bind (wpAny_bind (wpAny_loadPart hx (wpAny_bind (PySem.W.Looks.here (s := { s with toks := s.toks + 1 }) (PySem.W.looks_clsIn X hc) ?_))))))
  rw [hd']
  refine wpAny_pure (a := some dx) (wpAny_bind (wpAny_pure (wpAny_bind ?_)))
  refine wpAny_nsSet1 (s := { s with toks := s.toks + 1 }) I.ns fun h' hn2 hs2 => ?_
  obtain ⟨oD, esD, epD, hoD, hdD, hcD⟩ := hn2.count (PySem.Within.cons name v hw)
  refine wpAny_bind (wpAny_lookBehind hoD (by rw [hdD]; exact pastItsLine_dict (Nat.le_trans hcD (by rw [List.length_cons]; omega))) ?_)
  exact wpAny_pure (h _ ⟨(hs2.2 _ (Ne.symm I.ne)).trans I.obj, hn2, I.ne⟩ hs2)
theorem make_map {R : Result → Shared → Prop} {vs : List Value} {kw : List (Str × Value)} (X : K.In s.heap) (hm : PySem.W.makesIn K C = true)
    (hi : PySem.W.findIn K (.ref C) "__init__" = some (some (.ref f))) (hf : PySem.W.typeIn K (.ref f) = some (.type "function"))
    (h : codeAny (model prog w) (A.under (.builtin "type.__call__" ⟨.ref C :: vs, kw⟩)) (.call (.ref f) ⟨.ref (s.heap.objs.size + 1) :: vs, kw⟩) (PySem.W.InitBack (s.heap.objs.size + 1) R)
      { s with heap := (s.heap.push PySem.W.emptyDict).push (PySem.W.instObj C s.heap.objs.size) }) :
    codeAny (model prog w) A (.call (.ref C) ⟨vs, kw⟩) R s := by
  obtain ⟨hh, g, d, t, os⟩ := s
  exact PySem.W.make_core (PySem.W.makes_of X hm) (PySem.W.looks_findIn X hi) (fun self => PySem.W.bind_fn X self hf) (.inl rfl) h
end
def putF (f : Str) (v : V) : List (Str × V) → List (Str × V)
  | [] => [(f, v)]
  | (g, x) :: r => if g = f then (g, v) :: r else (g, x) :: putF f v r
theorem lookup_putF (f g : Str) (v : V) : ∀ fs : List (Str × V), (putF f v fs).lookup g = if g = f then some v else fs.lookup g
  | [] => by
    show List.lookup g [(f, v)] = _
    by_cases h : g = f
    · have hb : (g == f) = true := beq_iff_eq.mpr h
      simp only [List.lookup, hb, if_pos h]
    · have hb : (g == f) = false := beq_eq_false_iff_ne.mpr h
      simp only [List.lookup, hb, if_neg h]
  | (k, x) :: r => by
    have ih := lookup_putF f g v r
    rw [show putF f v ((k, x) :: r) = (if k = f then (k, v) :: r else (k, x) :: putF f v r) from rfl]
    by_cases hk : k = f
    · rw [if_pos hk]
      by_cases h : g = k
      · have hb : (g == k) = true := beq_iff_eq.mpr h
        simp only [List.lookup, hb, if_pos (h.trans hk)]
      · have hb : (g == k) = false := beq_eq_false_iff_ne.mpr h
        simp only [List.lookup, hb, if_neg (fun e : g = f => h (e.trans hk.symm))]
    · rw [if_neg hk]
      by_cases h : g = k
      · have hb : (g == k) = true := beq_iff_eq.mpr h
        simp only [List.lookup, hb, if_neg (fun e : g = f => hk (h.symm.trans e))]
      · have hb : (g == k) = false := beq_eq_false_iff_ne.mpr h
        simp only [List.lookup, hb]
        exact ih
theorem keys_putF (f : Str) (v : V) : ∀ fs : List (Str × V), f ∈ (putF f v fs).map (·.1) ∧ ∀ g, g ∈ fs.map (·.1) → g ∈ (putF f v fs).map (·.1)
  | [] => ⟨by simp [putF], fun g h => by simp at h⟩
  | (k, x) :: r => by
    obtain ⟨i1, i2⟩ := keys_putF f v r
    rw [show putF f v ((k, x) :: r) = (if k = f then (k, v) :: r else (k, x) :: putF f v r) from rfl]
    by_cases hk : k = f
    · rw [if_pos hk]
      subst hk
      exact ⟨by simp, fun g h => by simpa using h⟩
    · rw [if_neg hk]
      refine ⟨?_, fun g h => ?_⟩
      · rw [List.map_cons]
        exact List.mem_cons_of_mem _ i1
      · rw [List.map_cons] at h ⊢
        rcases List.mem_cons.mp h with e | e
        · exact List.mem_cons.mpr (.inl e)
        · exact List.mem_cons_of_mem _ (i2 g e)
theorem length_putF (f : Str) (v : V) : ∀ fs : List (Str × V), (putF f v fs).length ≤ fs.length + 1
  | [] => by simp [putF]
  | (k, x) :: r => by
    have ih := length_putF f v r
    rw [show putF f v ((k, x) :: r) = (if k = f then (k, v) :: r else (k, x) :: putF f v r) from rfl]
    by_cases hk : k = f
    · rw [if_pos hk, List.length_cons, List.length_cons]; omega
    · rw [if_neg hk, List.length_cons, List.length_cons]; omega
theorem RelO.some_of {v : V} {o : Option Value} (r : RelO (some v) o) : ∃ u, o = some u ∧ RelV v u := by
  cases o with
  | none => exact (show False from r).elim
  | some u => exact ⟨u, rfl, r⟩
theorem RelO.none_of {o : Option Value} (r : RelO none o) : o = none := by
  cases o with
  | none => rfl
  | some u => exact (show False from r).elim
theorem handed_of {v : V} {u : Value} (r : RelV v u) : PySem.W.handedIn u = true := by
  cases v with
  | non => cases (show u = Value.none from r); rfl
  | bl b => cases (show u = Value.bool b from r); rfl
  | int i => obtain ⟨t, e⟩ := (show ∃ t, u = Value.int i t from r); cases e; rfl
  | str x => obtain ⟨t, e⟩ := (show ∃ t, u = Value.str x t from r); cases e; rfl
  | byt b => obtain ⟨t, e⟩ := (show ∃ t, u = Value.bytes b t from r); cases e; rfl
  | flt b => obtain ⟨t, e⟩ := (show ∃ t, u = Value.float b t from r); cases e; rfl
  | ref a => cases (show u = Value.ref a from r); rfl
  | ty n => cases (show u = Value.type n from r); rfl
section
variable {P : Program} {w : World} {H H' : Hp} {h h' : Heap} {a C dx : Addr} {fs fs' : List (Str × V)}
theorem ins_get (hok : HOk P w H h) (e : H a = some (.ins C dx fs)) : ∃ mA, ObjM h a dx C mA ∧ (∀ f, RelO (fs.lookup f) (mA f)) ∧ PySem.Within mA (fs.map (·.1)) ∧ fs.length ≤ 1000 ∧ H dx = some (.own a) := by
  obtain ⟨d, z, ne, ob, mA, n, r, q⟩ := (show ObjOk P w H h a (.ins C dx fs) from hok a _ e)
  exact ⟨mA, ⟨ob, n, ne⟩, r, q, z, d⟩
end
structure Cls (K : PySem.W.Frag) (C : Addr) : Prop where
  pg : PySem.W.plainGet K C Str.empty = true
  hd : PySem.W.hasDictIn K C = true
  po : PySem.W.plainOver K C = true
  sa : PySem.W.findIn K (.ref C) "__setattr__" = some (some (.builtin "object.__setattr__"))
theorem Cls.get {K : PySem.W.Frag} {C : Addr} (c : Cls K C) (f : Str) : PySem.W.plainGet K C f = true := c.pg
def NoAttr (K : PySem.W.Frag) (C : Addr) (f : Str) : Prop := PySem.W.findIn K (.ref C) f = some none
theorem NoAttr.taker {K : PySem.W.Frag} {C : Addr} {f : Str} (n : NoAttr K C f) : PySem.W.takerIn K C f = some none := by
  unfold PySem.W.takerIn
  rw [show PySem.W.findIn K (.ref C) f = some none from n]
  rfl
structure Meth (K : PySem.W.Frag) (C : Addr) (m : Str) (f : Addr) : Prop where
  at_ : PySem.W.findIn K (.ref C) m = some (some (.ref f))
  fn : PySem.W.isFn K (.ref f) = true
  kp : PySem.W.keepIn K (.ref f) = true
section
variable {X : Cx} {pins : List (Addr × Obj)} {σ : St} {H : Hp} {s : Shared} {a C dx : Addr} {fs : List (Str × V)} {f : Str} {v : V} {A : Around} {E : Value → Shared → Prop}
theorem getattr_ok {b : Bool} {Q : Value → Shared → Prop} (I : Inv X pins σ H s) (e : H a = some (.ins C dx fs)) (c : Cls X.K C) (n : NoAttr X.K C f) (l : fs.lookup f = some v)
    (h : ∀ u s', Inv X pins σ H s' → RelV v u → Q u s') : wpAny (model X.prog X.w) A (getAttr (.ref a) f b) Q E s := by
  obtain ⟨mA, O, r, _, _, _⟩ := ins_get I.hok e
  obtain ⟨u, hu, ru⟩ := RelO.some_of (v := v) (o := mA f) (by rw [← l]; exact r f)
  exact get_map I.kIn O (c.get f) c.hd n hu (handed_of ru) (h u _ (I.tok _) ru)
theorem getmeth_ok {m : Str} {g : Addr} {pl : Sem Bool} {Q : Value × List Value → Shared → Prop} (I : Inv X pins σ H s) (e : H a = some (.ins C dx fs)) (c : Cls X.K C) (k : Meth X.K C m g) (l : fs.lookup m = none)
    (h : Q (.ref g, [.ref a]) s) : wpAny (model X.prog X.w) A (getMethod (.ref a) m pl) Q E s := by
  obtain ⟨mA, O, r, _, _, _⟩ := ins_get I.hok e
  have hn : mA m = none := RelO.none_of (by rw [← l]; exact r m)
  exact get_meth I.kIn O (c.get m) k.at_ k.fn hn h
theorem setattr_ok {y : V} {u : Value} {Q : Unit → Shared → Prop} (I : Inv X pins σ H s) (e : H a = some (.ins C dx fs)) (c : Cls X.K C) (n : NoAttr X.K C f) (hl : fs.length < 1000) (ry : RelV y u)
    (h : ∀ s', Inv X pins σ (upd H a (.ins C dx (putF f y fs))) s' → Q () s') : wpAny (model X.prog X.w) A (setAttr (.ref a) f u) Q E s := by
  obtain ⟨mA, O, r, wi, _, ho⟩ := ins_get I.hok e
  have hz : (fs.map (·.1)).length ≤ sizeLine := by rw [List.length_map, sizeLine_eq]; omega
  refine set_map I.kIn O c.sa c.po n.taker c.hd wi hz fun h' O' sb => h _ ?_
  have hd : ∃ o, h'.get? dx = some o := let ⟨o, _, _, e', _⟩ := O'.ns; ⟨o, e'⟩
  refine I.write (x := a) (e := dx) (by rw [e]; exact True.intro) (.inr ho) (fun b q hb z => (sb.2 b hb).trans z) hd ?_
  refine ⟨by rw [upd_ne O.ne]; exact ho, ?_, O.ne, O'.obj, _, O'.ns, fun g => ?_, fun g hg => ?_⟩
  · have := length_putF f y fs; omega
  · show RelO ((putF f y fs).lookup g) (if g = f then some u else mA g)
    rw [lookup_putF]
    by_cases q : g = f
    · rw [if_pos q, if_pos q]; exact ry
    · rw [if_neg q, if_neg q]; exact r g
  · by_cases q : g = f
    · rw [q]; exact (keys_putF f y fs).1
    · refine (keys_putF f y fs).2 g (wi g fun z => hg ?_)
      show (if g = f then some u else mA g) = none
      rw [if_neg q]; exact z
theorem Inv.made (I : Inv X pins σ H s) : Inv X pins σ (upd (upd H s.heap.objs.size (.own (s.heap.objs.size + 1))) (s.heap.objs.size + 1) (.ins C s.heap.objs.size []))
    { s with heap := (s.heap.push PySem.W.emptyDict).push (PySem.W.instObj C s.heap.objs.size) } := by
  have e1 : (s.heap.push PySem.W.emptyDict).get? s.heap.objs.size = some PySem.W.emptyDict := Heap.get?_push_size s.heap rfl
  have e2 : ((s.heap.push PySem.W.emptyDict).push (PySem.W.instObj C s.heap.objs.size)).get? (s.heap.objs.size + 1) = some (PySem.W.instObj C s.heap.objs.size) := by
    have := Heap.get?_push_size (s.heap.push PySem.W.emptyDict) (o := PySem.W.instObj C s.heap.objs.size) rfl
    rwa [Heap.size_push] at this
  have e3 : (s.heap.push PySem.W.emptyDict).Ns s.heap.objs.size (fun _ => none) := ⟨PySem.W.emptyDict, #[], _, e1, rfl, (fun e he => absurd he (by simp)), fun _ => rfl⟩
  have I1 := I.laid (a := s.heap.objs.size) (o := .own (s.heap.objs.size + 1)) (h' := s.heap.push PySem.W.emptyDict) (t' := s.toks) (fun b u q => Heap.get?_push_of_some _ q) (Nat.le_refl _) ⟨_, e1⟩
  refine I1.laid (a := s.heap.objs.size + 1) (o := .ins C s.heap.objs.size []) (t' := s.toks) (fun b u q => Heap.get?_push_of_some _ q) (Nat.le_of_eq (Heap.size_push _ _)) ?_
  have ne : s.heap.objs.size ≠ s.heap.objs.size + 1 := Nat.ne_of_lt (Nat.lt_succ_self _)
  refine ⟨by rw [upd_ne ne, upd_same], Nat.zero_le _, ne, e2, fun _ => none, (Heap.Ns1.of_empty e3).at fun o q => Heap.get?_push_of_some _ q, fun _ => True.intro, fun y hy => absurd rfl hy⟩
theorem attr_of {prog : Program} {w : World} {env : Env} {e : Expr} {f : Str} {pos : Pos} {s : Shared} {Q : Value → Shared → Prop} (hb : attributeBase e f env (eval e env) = eval e env)
    (h : wpAny (model prog w) A (eval e env) (fun o s₁ => wpAny (model prog w) A (getAttr o f true) Q E s₁) E s) : wpAny (model prog w) A (eval (.Attribute e f pos) env) Q E s :=
  Attribute_any_ h (by rw [arm_eval_Attribute, hb])
end
def tFld (K : PySem.W.Frag) (ta : TE) (f : Str) : TE := fun σ H Q => ta σ H fun x H1 => ∃ a C dx fs v, x = .ref a ∧ H1 a = some (.ins C dx fs) ∧ Cls K C ∧ NoAttr K C f ∧ fs.lookup f = some v ∧ Q v H1
def sFld (K : PySem.W.Frag) (ta tv : TE) (f : Str) : TS := fun D σ H => tv σ H fun y H1 => ta σ H1 fun x H2 => ∃ a C dx fs, x = .ref a ∧ H2 a = some (.ins C dx fs) ∧ Cls K C ∧ NoAttr K C f ∧ fs.length < 1000 ∧
  D.nx σ (upd H2 a (.ins C dx (putF f y fs)))
def InOp (X : Cx) (op : Operator) (rd : V → V → Hp → VK → Prop) : Prop :=
  ∀ (pins : List (Addr × Obj)) (s : Shared) (σ : St) (H : Hp) (x y : V) (u v : Value) (Q : VK), Inv X pins σ H s → RelV x u → RelV y v → rd x y H Q → wpAny (model X.prog X.w) X.A (inplaceOp op u v) (EP X pins σ Q) X.xe s
def sFldAug (K : PySem.W.Frag) (ta tv : TE) (rd : V → V → Hp → VK → Prop) (f : Str) : TS := fun D σ H => ta σ H fun x H1 => ∃ a C dx fs v, x = .ref a ∧ H1 a = some (.ins C dx fs) ∧ Cls K C ∧ NoAttr K C f ∧ fs.lookup f = some v ∧
  tv σ H1 fun y H2 => rd v y H2 fun z H3 => ∃ dx' fs', H3 a = some (.ins C dx' fs') ∧ fs'.length < 1000 ∧ D.nx σ (upd H3 a (.ins C dx' (putF f z fs')))
section
variable {X : Cx} {o e value : Expr} {f : Str} {pos pos' tpos : Pos} {ta tv : TE}
theorem pe_fld (he : PE X e ta) (hb : attributeBase e f X.env (eval e X.env) = eval e X.env) : PE X (.Attribute e f pos) (tFld X.K ta f) := by
  intro pins s σ H Q I h
  refine attr_of hb (thn (he pins s σ H _ I h) fun u s1 ⟨x, H1, I1, rx, a, C, dx, fs, v, ex, ea, c, n, l, q⟩ => ?_)
  subst ex
  obtain rfl : u = Value.ref a := rx
  exact getattr_ok I1 ea c n l fun u' s2 I2 ru => ⟨v, H1, I2, ru, q⟩
theorem ps_fld (ha : PE X o ta) (hv : PE X value tv) (hs : swapsWith value (some (.Attribute o f pos')) pos.line X.env = pure false) : PS X (.Assign [.Attribute o f pos'] value pos) (sFld X.K ta tv f) := by
  intro pins s σ H D I h
  refine plainObj_wpAny_Assign_Attribute (thn (hv pins s σ H _ I h) fun u s1 ⟨y, H1, I1, ry, q⟩ => thn (ha pins s1 σ H1 _ I1 q) fun ov s2 ⟨x, H2, I2, rx, a, C, dx, fs, ex, ea, c, n, l, q2⟩ => ?_) hs
  subst ex
  obtain rfl : ov = Value.ref a := rx
  exact setattr_ok I2 ea c n l ry fun s3 I3 => ⟨σ, _, I3, q2⟩
theorem ps_fldaug {op : Operator} {rd : V → V → Hp → VK → Prop} (ha : PE X o ta) (hv : PE X value tv) (hop : InOp X op rd) : PS X (.AugAssign (.Attribute o f tpos) op value pos) (sFldAug X.K ta tv rd f) := by
  intro pins s σ H D I h
  refine wpAny_AugAssign_AttributeAny (thn (ha pins s σ H _ I h) fun ov s1 ⟨x, H1, I1, rx, a, C, dx, fs, v, ex, ea, c, n, l, q⟩ => ?_)
  subst ex
  obtain rfl : ov = Value.ref a := rx
  refine getattr_ok I1 ea c n l fun u s2 I2 ru => thn (hv pins s2 σ H1 _ I2 q) fun w3 s3 ⟨y, H2, I3, ry, q3⟩ => thn (hop pins s3 σ H2 v y u w3 _ I3 ru ry q3) fun w4 s4 ⟨z, H3, I4, rz, dx', fs', ea', l', q4⟩ => ?_
  exact setattr_ok I4 ea' c n l' rz fun s5 I5 => ⟨σ, _, I5, q4⟩
end
section
variable {X : Cx} {pins : List (Addr × Obj)} {σ : St} {H : Hp} {s : Shared} {A : Around} {E : Value → Shared → Prop} {Q : Value → Shared → Prop} {c : Value} {b : Bool}
inductive TyOf (K : PySem.W.Frag) (H : Hp) : V → Value → Prop where
  | non : TyOf K H .non (.type "NoneType")
  | bl (x : Bool) : TyOf K H (.bl x) (.type "bool")
  | int (i : Int) : TyOf K H (.int i) (.type "int")
  | str (x : Str) : TyOf K H (.str x) (.type "str")
  | flt (x : UInt64) : TyOf K H (.flt x) (.type "float")
  | lst {a : Addr} {xs : List V} (e : H a = some (.lst xs)) : TyOf K H (.ref a) (.type "list")
  | frz {a : Addr} {o : Obj} {xs : List V} (e : H a = some (.frz o (.lst xs))) : TyOf K H (.ref a) (.type "list")
  | tup {a : Addr} {xs : List V} (e : H a = some (.tup xs)) : TyOf K H (.ref a) (.type "tuple")
  | dK {a : Addr} {kvs : List (Key × V)} (e : H a = some (.dK kvs)) : TyOf K H (.ref a) (.type "dict")
  | dT {a : Addr} {kvs : List (List Key × V)} (e : H a = some (.dT kvs)) : TyOf K H (.ref a) (.type "dict")
  | ins {a C dx : Addr} {fs : List (Str × V)} (e : H a = some (.ins C dx fs)) (cl : Cls K C) (ha : PySem.W.findIn K (.ref C) "__class__" = some (some (.builtin "object.__class__")))
      (hn : PySem.W.specialIn K (.builtin "object.__class__") "__get__" = some (some (.builtin "getset_descriptor.__get__"))) (htk : PySem.W.takesIn K (.builtin "object.__class__") = some true)
      (hm : PySem.W.mroIn K C (.type "object") = some true) : TyOf K H (.ref a) (.ref C)
theorem isinst_ok {x : V} {u t : Value} (I : Inv X pins σ H s) (rx : RelV x u) (ty : TyOf X.K H x t) (e : PySem.W.kitOne X.K t c = some b) (h : ∀ tk, Q (.bool b) { s with toks := tk }) :
    wpAny (model X.prog X.w) A (call (.builtin "isinstance") [u, c]) Q E s := by
  cases ty with
  | non => cases (show u = Value.none from rx); exact PySem.W.kia_one PySem.W.kitx_none I.kIn True.intro e (fun z => nomatch z) h
  | bl y => cases (show u = Value.bool y from rx); exact PySem.W.kia_one PySem.W.kitx_bool I.kIn True.intro e (fun z => nomatch z) h
  | int i => obtain ⟨t, q⟩ := (show ∃ t, u = Value.int i t from rx); cases q; exact PySem.W.kia_one PySem.W.kitx_int I.kIn True.intro e (fun z => nomatch z) h
  | str y => obtain ⟨t, q⟩ := (show ∃ t, u = Value.str y t from rx); cases q; exact PySem.W.kia_one PySem.W.kitx_str I.kIn True.intro e (fun z => nomatch z) h
  | flt y => obtain ⟨t, q⟩ := (show ∃ t, u = Value.float y t from rx); cases q; exact PySem.W.kia_one PySem.W.kitx_float I.kIn True.intro e (fun z => nomatch z) h
  | @lst a xs ea =>
    cases (show u = Value.ref a from rx)
    obtain ⟨_, _, n, _, h1⟩ := (show ObjOk X.prog X.w H s.heap a (.lst xs) from I.hok a _ ea)
    exact PySem.W.kia_one PySem.W.kitx_list I.kIn ⟨_, h1, rfl⟩ e (fun z => nomatch z) h
  | @frz a ob xs ea =>
    cases (show u = Value.ref a from rx)
    obtain ⟨_, _, _, n, _, h1⟩ := (show ObjOk X.prog X.w H s.heap a (.frz ob (.lst xs)) from I.hok a _ ea)
    exact PySem.W.kia_one PySem.W.kitx_list I.kIn ⟨_, h1, rfl⟩ e (fun z => nomatch z) h
  | @tup a xs ea =>
    cases (show u = Value.ref a from rx)
    obtain ⟨_, _, _, p⟩ := (show ObjOk X.prog X.w H s.heap a (.tup xs) from I.hok a _ ea)
    obtain ⟨o, h1, h2, _⟩ := p
    exact PySem.W.kia_one PySem.W.kitx_tuple I.kIn ⟨o, h1, h2⟩ e (fun z => nomatch z) h
  | @dK a kvs ea =>
    cases (show u = Value.ref a from rx)
    obtain ⟨_, _, vs, _, p⟩ := (show ObjOk X.prog X.w H s.heap a (.dK kvs) from I.hok a _ ea)
    obtain ⟨o, es, ep, h1, h2, _⟩ := p
    exact PySem.W.kia_one PySem.W.kitx_dict I.kIn ⟨o, h1, h2.1⟩ e (fun z => nomatch z) h
  | @dT a kvs ea =>
    cases (show u = Value.ref a from rx)
    obtain ⟨_, _, xs, _, o, es, ep, h1, h2, _⟩ := (show ObjOk X.prog X.w H s.heap a (.dT kvs) from I.hok a _ ea)
    exact PySem.W.kia_one PySem.W.kitx_dict I.kIn ⟨o, h1, h2.1⟩ e (fun z => nomatch z) h
  | @ins a C dx fs ea cl ha hn htk hm =>
    cases (show u = Value.ref a from rx)
    obtain ⟨mA, O, _⟩ := ins_get I.hok ea
    obtain ⟨od, J, _⟩ := O.look
    exact PySem.W.kia_one (PySem.W.kitx_own (cl.get _) cl.hd ha hn htk hm) I.kIn J e (fun z => nomatch z) h
end
end L2
namespace L2
open PySem PySem.Spec PyProof.Rows
structure Room (k : Nat) (A : Around) : Prop where
  hd : A.handled = none
  dp : A.depth + 3 * k + 5 < recursionLimit
  un : A.units + 16 * k + 200 < cLine
theorem Room.mono {j k : Nat} {A : Around} (r : Room k A) (h : j ≤ k) : Room j A := ⟨r.hd, by have := r.dp; omega, by have := r.un; omega⟩
theorem Room.deeper {k : Nat} {A : Around} (r : Room (k + 1) A) (env : Env) : Room k (A.deeper env) :=
  ⟨r.hd, by have := r.dp; show A.depth + 1 + 3 * k + 5 < _; omega, by have := r.un; show A.units + 3 + 16 * k + 200 < _; omega⟩
theorem make_depth {A : Around} {C : Addr} {us : List Value} {kw : List (Str × Value)} : (A.under (.builtin "type.__call__" ⟨.ref C :: us, kw⟩)).depth = A.depth + 1 := by
  first | rfl | simp [Around.under, Code.weight, Code.isCreation, Code.isGuard, Code.isCaller, Code.frames, Code.isFrame, guardIds]
theorem make_units {A : Around} {C : Addr} {us : List Value} {kw : List (Str × Value)} : (A.under (.builtin "type.__call__" ⟨.ref C :: us, kw⟩)).units = A.units + 1 := by
  first | rfl | simp [Around.under, Code.cUnits, Code.frames, Code.isFrame]
theorem Room.make {k : Nat} {A : Around} (r : Room (k + 1) A) (C : Addr) (us : List Value) (kw : List (Str × Value)) : Room k (A.under (.builtin "type.__call__" ⟨.ref C :: us, kw⟩)) :=
  ⟨r.hd, by have := r.dp; rw [make_depth]; omega, by have := r.un; rw [make_units]; omega⟩
theorem Room.depth {k : Nat} {A : Around} (r : Room k A) : A.depth < recursionLimit := by have := r.dp; omega
theorem Room.units {k : Nat} {A : Around} (r : Room k A) : A.units + 64 < cLine := by have := r.un; omega
def tNil : TA := fun _ H Q => Q [] H
def tCons (ta : TE) (tr : TA) : TA := fun σ H Q => ta σ H fun x H1 => tr σ H1 fun xs H2 => Q (x :: xs) H2
section
variable {X : Cx} {e : Expr} {es : List Expr} {te : TE} {t : TA} {pos : Pos}
theorem pa_nil : PA X [] tNil := fun _ _ _ _ H Q I h => Calls.spliced_nil ⟨[], H, I, .nil, h⟩
theorem pa_cons (ha : PE X e te) (hr : PA X es t) (hs : starEach (e :: es) X.env = (false, eval e X.env) :: starEach es X.env := by rfl) : PA X (e :: es) (tCons te t) := by
  intro pos pins s σ H Q I h
  rw [hs]
  show wpAny _ _ (spliced ((false, eval e X.env) :: backTo pos (starEach es X.env))) _ _ s
  refine Calls.spliced_cons (thn (ha pins s σ H _ I h) fun u s1 ⟨x, H1, I1, r1, q1⟩ => ?_)
  exact thn (hr pos pins s1 σ H1 _ I1 q1) fun us s2 ⟨xs, H2, I2, r2, q2⟩ => ⟨x :: xs, H2, I2, .cons r1 r2, q2⟩
def tTup (t : TA) : TE := fun σ H Q => t σ H fun xs H1 => xs.length ≤ sizeLine ∧ ∀ p, H1 p = none → Q (.ref p) (upd H1 p (.tup xs))
def tLst (t : TA) : TE := fun σ H Q => t σ H fun xs H1 => xs.length ≤ sizeLine ∧ ∀ p, H1 p = none → Q (.ref p) (upd H1 p (.lst xs))
theorem pe_tup {x1} (h : PA X es t) : PE X (.Tuple es x1 pos) (tTup t) := by
  intro pins s σ H Q I hq
  refine wpAny_Tuple_spliced (thn (h pos pins s σ H _ I hq) fun us s1 ⟨xs, H1, I1, r, z, q⟩ => ⟨by rw [← r.length]; exact z, ?_⟩)
  have hf : H1 s1.heap.objs.size = none := I1.hok.fresh (Nat.le_refl _)
  refine ⟨.ref s1.heap.objs.size, upd H1 s1.heap.objs.size (.tup xs), I1.laid (t' := s1.toks) (fun b u e => Heap.get?_push_of_some _ e) (Nat.le_refl _) ?_, rfl, q _ hf⟩
  exact ⟨⟨z, new_bare⟩, us, r, ⟨_, Heap.get?_push_size _ rfl, rfl, _, rfl⟩⟩
theorem pe_lst (h : PA X es t) : PE X (.List es pos) (tLst t) := by
  intro pins s σ H Q I hq
  refine wpAny_List_spliced (thn (h pos pins s σ H _ I hq) fun us s1 ⟨xs, H1, I1, r, z, q⟩ => ⟨by rw [← r.length]; exact z, ?_⟩)
  have hf : H1 s1.heap.objs.size = none := I1.hok.fresh (Nat.le_refl _)
  refine ⟨.ref s1.heap.objs.size, upd H1 s1.heap.objs.size (.lst xs), I1.laid (t' := s1.toks) (fun b u e => Heap.get?_push_of_some _ e) (Nat.le_refl _) ?_, rfl, q _ hf⟩
  exact ⟨z, us, 0, r, Heap.get?_push_size _ rfl⟩
end
abbrev Sp := List V → Hp → VK → XK → Prop
abbrev CXT := List Env → Hp → Shared → XK → Value → Shared → Prop
structure Env0 (P : Program) (w : World) (K : PySem.W.Frag) (mg : Str → Option Value) (base : Heap) (A : Around) (outer : List Env) (s : Shared) (H : Hp) : Prop where
  frames : A.frames = some outer
  mod : Mod K mg base
  bs : ∀ b o, base.get? b = some o → s.heap.get? b = some o ∧ H b = none
  bsz : base.objs.size ≤ s.heap.objs.size
  funs : s.heap.FunFrames base outer
  frf : ∀ b ∈ frs outer, H b = none
  hok : HOk P w H s.heap
  bare : AllBare s.gens
def CE (outer : List Env) (P : Program) (w : World) (H : Hp) (s : Shared) (Q : VK) (u : Value) (s' : Shared) : Prop :=
  ∃ v H', s'.os = s.os ∧ AllBare s'.gens ∧ Un (frs outer) [] H H' s.heap s'.heap ∧ HOk P w H' s'.heap ∧ RelV v u ∧ Q v H'
def CR (CX : CXT) (outer : List Env) (P : Program) (w : World) (H : Hp) (s : Shared) (Q : VK) (E : XK) (r : Result) (s' : Shared) : Prop :=
  match r with
  | .ok (.ret u) => CE outer P w H s Q u s'
  | .ok _ => False
  | .error e => CX outer H s E e s'
structure FnOk (P : Program) (w : World) (K : PySem.W.Frag) (mg : Str → Option Value) (base : Heap) (CX : CXT) (k : Nat) (f : Addr) (fd : FuncData) (ps : List Str) (sp : Sp) : Prop where
  len : ∀ vs H Q E, sp vs H Q E → vs.length = ps.length
  run : ∀ (A : Around) (outer : List Env) (s : Shared) (H : Hp) (args : Args) (us : List Value) (vs : List V) (Q : VK) (E : XK), Room k A → Env0 P w K mg base A outer s H → BindsTo s fd args (ps.zip us) → Vals vs us → sp vs H Q E →
    codeAny (model P w) A (.call (.ref f) args) (CR CX outer P w H s Q E) s
theorem Env0.make {P : Program} {w : World} {K : PySem.W.Frag} {mg : Str → Option Value} {base : Heap} {A : Around} {outer : List Env} {s : Shared} {H : Hp} (e : Env0 P w K mg base A outer s H) (C : Addr) (us : List Value) (kw : List (Str × Value)) :
    Env0 P w K mg base (A.under (.builtin "type.__call__" ⟨.ref C :: us, kw⟩)) outer s H := ⟨by first | exact e.frames | (simpa [Around.under, Code.envs, Code.isFrame, pushEnvs] using e.frames), e.mod, e.bs, e.bsz, e.funs, e.frf, e.hok, e.bare⟩
section
variable {X : Cx} {pins : List (Addr × Obj)} {σ : St} {H : Hp} {s s' : Shared}
theorem Inv.env0 (I : Inv X pins σ H s) : Env0 X.prog X.w X.K X.mg X.base X.A X.stack s H :=
  ⟨I.ok.frames, I.ok.mod, I.bs, Nat.le_trans I.ok.bsz I.sz, I.stack, I.stkFree, I.hok, I.bare⟩
theorem Inv.after {Q : VK} {u : Value} (I : Inv X pins σ H s) (h : CE X.stack X.prog X.w H s Q u s') : EP X pins σ Q u s' := by
  obtain ⟨v, H', os, bare, un, hok, r, q⟩ := h
  obtain ⟨hh, g, d, t, os'⟩ := s'
  obtain rfl : os' = s.os := os
  exact ⟨v, H', I.call (h' := hh) (g' := g) (d' := d) (t' := t) (ch := []) un hok bare (fun b z => absurd z (by simp)), r, q⟩
end
def tCall (sp : Sp) (dvs : List V) (E : XK) (t : TA) : TE := fun σ H Q => t σ H fun vs H1 => sp (vs ++ dvs) H1 Q E
def tMeth (C : Addr) (m : Str) (sp : Sp) (dvs : List V) (E : XK) (ta : TE) (t : TA) : TE := fun σ H Q => ta σ H fun x H1 => ∃ a dx fs, x = .ref a ∧ H1 a = some (.ins C dx fs) ∧ fs.lookup m = none ∧
  t σ H1 fun vs H2 => sp (x :: (vs ++ dvs)) H2 Q E
def tMake (C : Addr) (sp : Sp) (dvs : List V) (E : XK) (t : TA) : TE := fun σ H Q => t σ H fun vs H1 => ∀ x dx, H1 x = none → H1 dx = none → dx ≠ x →
  sp (.ref x :: (vs ++ dvs)) (upd (upd H1 dx (.own x)) x (.ins C dx [])) (fun v H2 => v = .non ∧ Q (.ref x) H2) E
def Binds (K : PySem.W.Frag) (fd : FuncData) (ps : List Str) (ds : List Value) : Prop :=
  ∀ (s : Shared) (us : List Value), K.In s.heap → (us ++ ds).length = ps.length → BindsTo s fd ⟨us, []⟩ (ps.zip (us ++ ds))
theorem Binds.all {K : PySem.W.Frag} {fd : FuncData} {ps : List Str} (h : ∀ us : List Value, us.length = ps.length → bindArgs fd ⟨us, []⟩ = pure (ps.zip us)) : Binds K fd ps [] := fun s us _ hl => by
  rw [List.append_nil] at hl ⊢
  exact .of_eq (h us hl)
def Passes (CX : CXT) (X : Cx) (E : XK) : Prop := ∀ (pins : List (Addr × Obj)) (σ : St) (H : Hp) (s : Shared) (e : Value) (s' : Shared), Inv X pins σ H s → CX X.stack H s E e s' → X.xe e s'
section
variable {X : Cx} {CX : CXT} {k : Nat} {f C : Addr} {fd : FuncData} {ps : List Str} {sp : Sp} {dvs : List V} {ds : List Value} {E : XK} {x m : Str} {p pos apos : Pos} {e o : Expr} {es : List Expr} {ta : TE} {t : TA}
theorem run_fn {pins : List (Addr × Obj)} {σ : St} {H : Hp} {s : Shared} {Q : VK} {us : List Value} {vs : List V} (F : FnOk X.prog X.w X.K X.mg X.base CX k f fd ps sp) (hr : Room k X.A) (hb : Binds X.K fd ps ds) (hd : Vals dvs ds) (hx : Passes CX X E)
    (I : Inv X pins σ H s) (r : Vals vs us) (h : sp (vs ++ dvs) H Q E) : wpAny (model X.prog X.w) X.A (call (.ref f) us) (EP X pins σ Q) X.xe s := by
  have r2 : Vals (vs ++ dvs) (us ++ ds) := r.append hd
  have hl : (us ++ ds).length = ps.length := by rw [← r2.length]; exact F.len _ _ _ _ h
  refine wpAny_call (codeAny_mono (F.run X.A X.stack s H ⟨us, []⟩ (us ++ ds) (vs ++ dvs) Q E hr I.env0 (hb s us I.kIn hl) r2 h) fun r s' hq => ?_)
  cases r with
  | error e => exact hx pins σ H s e s' I hq
  | ok fl =>
    cases fl with
    | ret u => exact I.after hq
    | next => exact False.elim hq
    | brk => exact False.elim hq
    | cont => exact False.elim hq
theorem pe_call (F : FnOk X.prog X.w X.K X.mg X.base CX k f fd ps sp) (hr : Room k X.A) (hg : Gl X x) (hm : X.mg x = some (.ref f)) (hk : PySem.W.keepIn X.K (.ref f) = true) (hb : Binds X.K fd ps ds) (hd : Vals dvs ds) (hx : Passes CX X E)
    (ha : PA X (e :: es) t) (hdb : (x == ("__debug__" : Str)) = false := by decide) (he : starEach (e :: es) X.env = (false, eval e X.env) :: starEach es X.env := by rfl) (hpl : (backTo pos (starEach es X.env)).any (·.1) = false := by rfl) :
    PE X (.Call (.Name x p) (e :: es) [] pos) (tCall sp dvs E t) := by
  intro pins s σ H Q I h
  refine wpAny_Call_Name_kw (ld_glob I hg hm ?_ hdb)
  refine PySem.W.callWith_K (h₀ := X.base) I.ok.mod.kin hk (thn (ha pos pins s σ H _ I h) fun us s1 ⟨vs, H1, I1, r, q⟩ => ⟨I1.kIn, ?_⟩) he hpl
  exact run_fn F hr hb hd hx I1 r q
theorem pe_meth {pl : Sem Bool} (he : PE X o ta) (c : Cls X.K C) (hm : Meth X.K C m f) (F : FnOk X.prog X.w X.K X.mg X.base CX k f fd ps sp) (hr : Room k X.A) (hb : Binds X.K fd ps ds) (hd : Vals dvs ds) (hx : Passes CX X E) (ha : PA X (e :: es) t)
    (hst : starEach (e :: es) X.env = (false, eval e X.env) :: starEach es X.env := by rfl) (hpl : (backTo pos (starEach es X.env)).any (·.1) = false := by rfl)
    (ht : eval (.Call (.Attribute o m apos) (e :: es) [] pos) X.env = (do
      let ov ← eval o X.env
      standAt apos.atName
      let (f, first) ← holding [ov] (getMethod ov m pl)
      callWith pos f first (backTo pos (starEach (e :: es) X.env)) (backToKw pos (keywordEach [] X.env))) := by rfl) :
    PE X (.Call (.Attribute o m apos) (e :: es) [] pos) (tMeth C m sp dvs E ta t) := by
  intro pins s σ H Q I h
  refine PySem.W.methodCall_KW (pl := pl) (thn (he pins s σ H _ I h) fun u s1 ⟨x, H1, I1, rx, a, dx, fs, ex, ea, l, q⟩ => ?_) ht
  subst ex
  obtain rfl : u = Value.ref a := rx
  refine getmeth_ok I1 ea c hm l ?_
  refine PySem.W.callWith_K (first := [.ref a]) (h₀ := X.base) I.ok.mod.kin hm.kp (thn (ha pos pins s1 σ H1 _ I1 q) fun us s2 ⟨vs, H2, I2, r, q2⟩ => ⟨I2.kIn, ?_⟩) hst hpl
  exact run_fn (us := .ref a :: us) (vs := .ref a :: vs) F hr hb hd hx I2 (.cons rfl r) q2
theorem pe_meth0 {pl : Sem Bool} (he : PE X o ta) (c : Cls X.K C) (hm : Meth X.K C m f) (F : FnOk X.prog X.w X.K X.mg X.base CX k f fd ps sp) (hr : Room k X.A) (hb : Binds X.K fd ps ds) (hd : Vals dvs ds) (hx : Passes CX X E)
    (ht : eval (.Call (.Attribute o m apos) [] [] pos) X.env = (do
      let ov ← eval o X.env
      standAt apos.atName
      let (f, first) ← holding [ov] (getMethod ov m pl)
      callWith pos f first (backTo pos (starEach [] X.env)) (backToKw pos (keywordEach [] X.env))) := by rfl) :
    PE X (.Call (.Attribute o m apos) [] [] pos) (tMeth C m sp dvs E ta tNil) := by
  intro pins s σ H Q I h
  refine PySem.W.methodCall_KW (pl := pl) (thn (he pins s σ H _ I h) fun u s1 ⟨x, H1, I1, rx, a, dx, fs, ex, ea, l, q⟩ => ?_) ht
  subst ex
  obtain rfl : u = Value.ref a := rx
  refine getmeth_ok I1 ea c hm l ?_
  exact PySem.W.callWith_K0 (first := [.ref a]) I1.kIn hm.kp (run_fn (us := [.ref a]) (vs := [.ref a]) F hr hb hd hx I1 (.cons rfl .nil) q)
structure Mk (K : PySem.W.Frag) (C f : Addr) : Prop where
  makes : PySem.W.makesIn K C = true
  init : PySem.W.findIn K (.ref C) "__init__" = some (some (.ref f))
  fn : PySem.W.isFn K (.ref f) = true
  kp : PySem.W.keepIn K (.ref C) = true
theorem run_make {pins : List (Addr × Obj)} {σ : St} {H : Hp} {s : Shared} {Q : VK} {us : List Value} {vs : List V} (M : Mk X.K C f) (F : FnOk X.prog X.w X.K X.mg X.base CX k f fd ps sp) (hr : Room (k + 1) X.A) (hb : Binds X.K fd ps ds) (hd : Vals dvs ds)
    (hx : Passes CX X E) (I : Inv X pins σ H s) (r : Vals vs us)
    (h : ∀ x dx, H x = none → H dx = none → dx ≠ x → sp (.ref x :: (vs ++ dvs)) (upd (upd H dx (.own x)) x (.ins C dx [])) (fun v H2 => v = .non ∧ Q (.ref x) H2) E) :
    wpAny (model X.prog X.w) X.A (call (.ref C) us) (EP X pins σ Q) X.xe s := by
  have hq := h (s.heap.objs.size + 1) s.heap.objs.size (I.hok.fresh (Nat.le_succ _)) (I.hok.fresh (Nat.le_refl _)) (Nat.ne_of_lt (Nat.lt_succ_self _))
  have I2 := Inv.made (C := C) I
  have r2 : Vals (V.ref (s.heap.objs.size + 1) :: (vs ++ dvs)) (Value.ref (s.heap.objs.size + 1) :: (us ++ ds)) := .cons rfl (r.append hd)
  have hl : (Value.ref (s.heap.objs.size + 1) :: us ++ ds).length = ps.length := by
    have e := r2.length
    rw [F.len _ _ _ _ hq] at e
    exact e.symm
  refine wpAny_call (make_map (f := f) I.kIn M.makes M.init (beq_iff_eq.mp M.fn) (codeAny_mono (F.run _ X.stack _ _ ⟨Value.ref (s.heap.objs.size + 1) :: us, []⟩ (Value.ref (s.heap.objs.size + 1) :: (us ++ ds)) _ _ E (hr.make C us [])
    (I2.env0.make C us []) (hb _ (Value.ref (s.heap.objs.size + 1) :: us) I2.kIn hl) r2 hq) fun r s' hq' => ?_))
  cases r with
  | error e => exact hx pins σ _ _ e s' I2 hq'
  | ok fl =>
    cases fl with
    | ret u =>
      obtain ⟨v, H', I3, rv, ev, q3⟩ := I2.after hq'
      subst ev
      exact ⟨rv, ⟨V.ref (s.heap.objs.size + 1), H', I3, rfl, q3⟩⟩
    | next => exact False.elim hq'
    | brk => exact False.elim hq'
    | cont => exact False.elim hq'
theorem pe_make (M : Mk X.K C f) (F : FnOk X.prog X.w X.K X.mg X.base CX k f fd ps sp) (hr : Room (k + 1) X.A) (hg : Gl X x) (hm : X.mg x = some (.ref C)) (hb : Binds X.K fd ps ds) (hd : Vals dvs ds) (hx : Passes CX X E)
    (ha : PA X (e :: es) t) (hdb : (x == ("__debug__" : Str)) = false := by decide) (he : starEach (e :: es) X.env = (false, eval e X.env) :: starEach es X.env := by rfl) (hpl : (backTo pos (starEach es X.env)).any (·.1) = false := by rfl) :
    PE X (.Call (.Name x p) (e :: es) [] pos) (tMake C sp dvs E t) := by
  intro pins s σ H Q I h
  refine wpAny_Call_Name_kw (ld_glob I hg hm ?_ hdb)
  refine PySem.W.callWith_K (h₀ := X.base) I.ok.mod.kin M.kp (thn (ha pos pins s σ H _ I h) fun us s1 ⟨vs, H1, I1, r, q⟩ => ⟨I1.kIn, ?_⟩) he hpl
  exact run_make M F hr hb hd hx I1 r q
end
section
variable {X : Cx} {CX : CXT} {k : Nat} {f C : Addr} {fd : FuncData} {ps ks : List Str} {sp : Sp} {E : XK} {x m : Str} {p pos apos kpos : Pos} {e o : Expr} {es : List Expr} {kws : List Keyword} {te ta : TE} {t tk : TA} {nm : Option Str}
variable {g : List Value → List Value → List Value} {gV : List V → List V → List V}
end
structure FnScope (N P : List Str) (sc : Scope) : Prop where
  kind : sc.kind = .function
  co : sc.isCoroutine = false
  gen : sc.isGenerator = false
  nd : N.Nodup
  pre : N.take P.length = P
  par : ∀ x ∈ P, sc.names.lookup x = some .local ∨ sc.names.lookup x = some .cell
  nofree : ∀ y ∈ sc.names, y.2 ≠ .free
theorem bindL_out {kindOf : Str → Option NameKind} {x : Str} : ∀ {binds : List (Str × Value)} {m : Str → Option Value}, (∀ v, (x, v) ∉ binds) → bindL kindOf binds m x = m x
  | [], _, _ => rfl
  | (n, v) :: r, m, h => by
    unfold bindL
    rw [bindL_out fun w hw => h w (List.mem_cons_of_mem _ hw)]
    split
    · have : x ≠ n := by rintro rfl; exact h v List.mem_cons_self
      simp [this]
    · rfl
theorem bindC_out {kindOf : Str → Option NameKind} {x : Str} : ∀ {binds : List (Str × Value)} {m : Str → Option Value}, (∀ v, (x, v) ∉ binds) → bindC kindOf binds m x = m x
  | [], _, _ => rfl
  | (n, v) :: r, m, h => by
    unfold bindC
    rw [bindC_out fun w hw => h w (List.mem_cons_of_mem _ hw)]
    split
    · rfl
    · have : x ≠ n := by rintro rfl; exact h v List.mem_cons_self
      simp [this]
theorem bindL_get {kindOf : Str → Option NameKind} {x : Str} {v : Value} : ∀ {P : List Str} {vs : List Value} {i : Nat} {m : Str → Option Value}, P.Nodup → P[i]? = some x → vs[i]? = some v → kindOf x = some .local →
    bindL kindOf (P.zip vs) m x = some v
  | [], _, _, _, _, h, _, _ => by simp at h
  | _ :: _, [], _, _, _, _, h, _ => by simp at h
  | p :: P, w :: vs, 0, m, nd, h1, h2, hk => by
    simp at h1 h2; subst h1; subst h2
    show bindL kindOf ((p, w) :: P.zip vs) m p = _
    unfold bindL
    rw [bindL_out fun v hv => (List.nodup_cons.mp nd).1 (List.of_mem_zip hv).1, if_pos hk]
    simp
  | p :: P, w :: vs, i + 1, m, nd, h1, h2, hk => by
    show bindL kindOf ((p, w) :: P.zip vs) m x = _
    unfold bindL
    exact bindL_get (i := i) (List.nodup_cons.mp nd).2 (by simpa using h1) (by simpa using h2) hk
theorem bindC_get {kindOf : Str → Option NameKind} {x : Str} {v : Value} : ∀ {P : List Str} {vs : List Value} {i : Nat} {m : Str → Option Value}, P.Nodup → P[i]? = some x → vs[i]? = some v → kindOf x ≠ some .local →
    bindC kindOf (P.zip vs) m x = some v
  | [], _, _, _, _, h, _, _ => by simp at h
  | _ :: _, [], _, _, _, _, h, _ => by simp at h
  | p :: P, w :: vs, 0, m, nd, h1, h2, hk => by
    simp at h1 h2; subst h1; subst h2
    show bindC kindOf ((p, w) :: P.zip vs) m p = _
    unfold bindC
    rw [bindC_out fun v hv => (List.nodup_cons.mp nd).1 (List.of_mem_zip hv).1, if_neg hk]
    simp
  | p :: P, w :: vs, i + 1, m, nd, h1, h2, hk => by
    show bindC kindOf ((p, w) :: P.zip vs) m x = _
    unfold bindC
    exact bindC_get (i := i) (List.nodup_cons.mp nd).2 (by simpa using h1) (by simpa using h2) hk
def start (N : List Str) (vs : List V) : St := vs.map some ++ List.replicate (N.length - vs.length) none
def cxOf (CX : CXT) (P : Program) (w : World) (K : PySem.W.Frag) (mg : Str → Option Value) (base : Heap) (N : List Str) (qual : Str) (scope : Scope) (f : Addr) (cd : Value) (A : Around) (outer : List Env) (s : Shared) (H : Hp) (E : XK) : Cx where
  prog := P
  w := w
  K := K
  mg := mg
  base := base
  A := A.deeper (envOfC qual scope s.heap.objs.size f cd)
  N := N
  s₀ := s
  H₀ := H
  env := envOfC qual scope s.heap.objs.size f cd
  outer := outer
  stack := envOfC qual scope s.heap.objs.size f cd :: outer
  ex := []
  calm := true
  fn := fun _ => true
  pn := []
  xe := fun e s' => wpAny (model P w) (A.deeper (envOfC qual scope s.heap.objs.size f cd)) (leaving (envOfC qual scope s.heap.objs.size f cd) e) (fun _ s'' => CX outer H s E e s'') (fun e' s'' => CX outer H s E e' s'') s'
theorem cell_has {sc : Scope} {n : Nat} {x : Str} (h : sc.names.lookup x = some .cell) : ∃ c, (cellsFrom n sc.names []).lookup x = some c := by
  have q := PySem.W.cellsFrom_some sc.names n [] (.inl h)
  exact Option.isSome_iff_exists.mp q
theorem inv_start {CX : CXT} {P : Program} {w : World} {K : PySem.W.Frag} {mg : Str → Option Value} {base : Heap} {N ps : List Str} {qual : Str} {scope : Scope} {f : Addr} {cd : Value} {A : Around} {outer : List Env} {s s1 : Shared} {H : Hp} {E : XK} {us : List Value} {vs : List V}
    (S : FnScope N ps scope) (hd : A.handled = none) (e0 : Env0 P w K mg base A outer s H) (hl : vs.length = ps.length) (r : Vals vs us)
    (x : InCallC s s.heap.objs.size (bindL (envOfC qual scope s.heap.objs.size f cd).kindOf (ps.zip us) fun _ => none) (cellsFrom (s.heap.objs.size + 1) scope.names []) (bindC (envOfC qual scope s.heap.objs.size f cd).kindOf (ps.zip us) fun _ => none) s1) :
    Inv (cxOf CX P w K mg base N qual scope f cd A outer s H E) [] (start N vs) H s1 := by
  have hpl : ps.length ≤ N.length := by have := congrArg List.length S.pre; rw [List.length_take] at this; omega
  obtain ⟨h1, tk, rfl, hk⟩ := x.done
  have noA : ∀ b : Addr, b ∉ (cxOf CX P w K mg base N qual scope f cd A outer s H E).ex := fun b z => absurd (show b ∈ ([] : List Addr) from z) (by simp)
  refine ⟨⟨e0.mod, S.kind, rfl, rfl, Nat.le_refl _, fun y z c h1 h2 => ?_, fun y hy => ?_, fun y c _ h => ?_, fun _ => hd, Around.frames_deeper e0.frames, .inr ⟨rfl, rfl⟩, fun b z => absurd z (noA b), e0.bs, e0.bsz, fun b _ _ => noA b, fun b z => absurd z (noA b), e0.funs, e0.frf⟩,
    rfl, e0.bare, Un.kept hk, ⟨_, x.toInCall.ns, fun i y v h1 h2 h3 => ?_⟩, fun y c h => ⟨_, x.cell y c h⟩, e0.hok.fresh (Nat.le_refl _), fun y c h => ?_, fun p hp => absurd (show p ∈ ([] : List (Addr × Obj)) from hp) (by simp), e0.hok.kept hk, ?_⟩
  · exact name_of_addr x.apart (PySem.mem_of_lookup h1) (PySem.mem_of_lookup h2)
  · have hy : scope.names.lookup y = some .cell ∨ scope.names.lookup y = some .free := hy
    rcases hy with hy | hy
    · exact cell_has hy
    · exact absurd rfl (S.nofree _ (PySem.mem_of_lookup hy))
  · exact Nat.le_of_lt (x.above y c (PySem.mem_of_lookup h))
  · have hi : i < vs.length := by
      unfold start at h2
      by_cases hi : i < vs.length
      · exact hi
      · rw [List.getElem?_append_right (by simpa using hi)] at h2
        rw [List.getElem?_replicate] at h2
        split at h2 <;> cases h2
    have ha : vs[i]? = some v := by
      unfold start at h2
      rw [List.getElem?_append_left (by simpa using hi), List.getElem?_map] at h2
      cases e : vs[i]? with
      | none => rw [e] at h2; cases h2
      | some a => rw [e] at h2; cases h2; rfl
    obtain ⟨u, hu, rv⟩ := r.get ha
    have hp : ps[i]? = some y := by
      rw [← S.pre, List.getElem?_take_of_lt (by omega)]; exact h1
    have ndP : ps.Nodup := by rw [← S.pre]; exact S.nd.sublist (List.take_sublist _ _)
    refine ⟨u, rv, ?_⟩
    rcases S.par y (List.mem_of_getElem? hp) with k | k
    · exact .inl ⟨k, bindL_get ndP hp hu k⟩
    · obtain ⟨c, e⟩ := cell_has (n := s.heap.objs.size + 1) k
      refine .inr ⟨.inl k, c, e, ?_⟩
      have q := x.cell y c e
      rw [bindC_get ndP hp hu (by show scope.names.lookup y ≠ _; rw [k]; decide)] at q
      exact q
  · exact e0.hok.fresh (Nat.le_of_lt (x.above y c (PySem.mem_of_lookup h)))
  · unfold start
    show _ = N.length
    rw [List.length_append, List.length_map, List.length_replicate]
    omega
theorem fn_of {CX : CXT} {P : Program} {w : World} {K : PySem.W.Frag} {mg : Str → Option Value} {base : Heap} {k : Nat} {f : Addr} {name qual : Str} {params : Arguments} {body : List Stmt} {scope : Scope} {dV kV doc pm cdv ct oc : Value} {an od : Option Addr}
    {osl : Array (Option Value)} {N ps : List Str} {sp : Sp} (lk : K.lookup f = some ⟨oc, od, .func (PySem.W.fnOf name qual params body scope dV kV doc pm an cdv ct), osl⟩) (hcd : PySem.W.codeIn K cdv qual = true) (S : FnScope N ps scope)
    (len : ∀ vs H Q E, sp vs H Q E → vs.length = ps.length)
    (hbody : ∀ (A : Around) (outer : List Env) (s : Shared) (H : Hp) (vs : List V) (Q : VK) (E : XK), Room k (A.deeper (envOfC qual scope s.heap.objs.size f cdv)) → sp vs H Q E →
      ∃ t, PSs (cxOf CX P w K mg base N qual scope f cdv A outer s H E) body t ∧ t { nx := fun _ H' => Q .non H', rt := Q } (start N vs) H) :
    FnOk P w K mg base CX (k + 1) f (PySem.W.fnOf name qual params body scope dV kV doc pm an cdv ct) ps sp := by
  refine ⟨len, fun A outer s H args us vs Q E hr e0 hb r hsp => ?_⟩
  have hl := len _ _ _ _ hsp
  have KX : K.In s.heap := e0.mod.kin.keeps fun b o e => (e0.bs b o e).1
  have lim : s.heap.NoLimit := e0.mod.nolimit.keeps fun b o e => (e0.bs b o e).1
  have hkind : ∀ y ∈ ps.zip us, scope.names.lookup y.1 = some .local ∨ (scope.names.lookup y.1 = some .cell ∧ ((cellsFrom (s.heap.objs.size + 1) scope.names []).lookup y.1).isSome = true) := fun ⟨n, v⟩ hy => by
    rcases S.par n (List.of_mem_zip hy).1 with q | q
    · exact .inl q
    · exact .inr ⟨q, PySem.W.cellsFrom_some _ _ _ (.inl q)⟩
  refine codeAny_call_function hr.depth (KX _ _ lk) rfl S.co S.gen rfl (PySem.W.codeRec_of KX hcd) (hb _ _ _ _ ?_)
  refine wpAny_newFunctionEnv_cells S.kind hkind fun env he s1 x => ?_
  subst he
  refine ⟨lim.keeps x.toInCall.keep, codeAny_func ?_⟩
  obtain ⟨t, ht, hq⟩ := hbody A outer s H vs Q E (hr.deeper _) hsp
  have I : Inv (cxOf CX P w K mg base N qual scope f cdv A outer s H E) [] (start N vs) H s1 := inv_start S hr.hd e0 hl r x
  refine wpAny_mono (ht [] s1 (start N vs) H _ I hq) (fun fl s' hs => ?_) fun e s' hs => hs
  have fin : ∀ {σ' : St} {H' : Hp} {v : V} {u : Value}, Inv (cxOf CX P w K mg base N qual scope f cdv A outer s H E) [] σ' H' s' → RelV v u → Q v H' → CE outer P w H s Q u s' :=
    fun {σ' H' v u} J rv q => ⟨v, H', J.os, J.bare, J.base, J.hok, rv, q⟩
  cases fl with
  | ret u =>
    obtain ⟨v, σ', H', J, rv, q⟩ := hs
    exact fin J rv q
  | next =>
    obtain ⟨σ', H', J, q⟩ := hs
    exact fin (v := V.non) (u := Value.none) J rfl q
  | brk =>
    obtain ⟨_, _, _, q⟩ := hs
    exact False.elim q
  | cont =>
    obtain ⟨_, _, _, q⟩ := hs
    exact False.elim q
end L2
namespace L2
open PySem PySem.Spec PyProof.Rows
section
variable {X : Cx} {x : Str} {p pos : Pos} {e : Expr} {es : List Expr} {t : TA} {id T : String} {r : List V → Hp → VK → Prop}
def tCB (r : List V → Hp → VK → Prop) (t : TA) : TE := fun σ H Q => t σ H fun vs H1 => r vs H1 Q
theorem pe_callB (hc : CallR X (.builtin id) r) (hg : Gl X x) (hm : X.mg x = none) (hv : bootBuiltins x = some (.builtin id)) (ha : PA X (e :: es) t) (hn : x ≠ "__name__" := by decide) (hdb : (x == ("__debug__" : Str)) = false := by decide)
    (he : starEach (e :: es) X.env = (false, eval e X.env) :: starEach es X.env := by rfl) (hpl : (backTo pos (starEach es X.env)).any (·.1) = false := by rfl) : PE X (.Call (.Name x p) (e :: es) [] pos) (tCB r t) := by
  intro pins s σ H Q I h
  refine wpAny_Call_Name_kw (ld_blt I hg hm hv ?_ hn hdb)
  exact PyProof.Rows.callWith_builtin1 (thn (ha pos pins s σ H _ I h) fun us s1 ⟨vs, H1, I1, r1, q1⟩ => hc pins s1 σ H1 vs us Q I1 r1 q1) he hpl
end
end L2
namespace L2
open PySem PySem.Spec PyProof.Rows
section
variable {κ : Type} [DecidableEq κ]
def valV (kvs : List (κ × V)) (k : κ) : Option V := (kvs.find? fun kv => decide (kv.1 = k)).map (·.2)
def putK (kvs : List (κ × V)) (k : κ) (v : V) : List (κ × V) :=
  if (kvs.any fun kv => decide (kv.1 = k)) = true then kvs.map (fun kv => if kv.1 = k then (kv.1, v) else kv) else kvs ++ [(k, v)]
theorem valV_pos {p : κ × V} {r : List (κ × V)} {k : κ} (e : p.1 = k) : valV (p :: r) k = some p.2 := by simp [valV, List.find?_cons, e]
theorem valV_neg {p : κ × V} {r : List (κ × V)} {k : κ} (e : ¬ p.1 = k) : valV (p :: r) k = valV r k := by simp [valV, List.find?_cons, e]
theorem valV_any (k : κ) : ∀ kvs : List (κ × V), (kvs.any fun kv => decide (kv.1 = k)) = (valV kvs k).isSome
  | [] => rfl
  | p :: r => by
    rw [List.any_cons]
    by_cases e : p.1 = k
    · simp only [valV_pos e, decide_eq_true e, Bool.true_or, Option.isSome_some]
    · rw [valV_neg e, decide_eq_false e, Bool.false_or]; exact valV_any k r
theorem length_putK (kvs : List (κ × V)) (k : κ) (v : V) : (putK kvs k v).length ≤ kvs.length + 1 := by
  unfold putK
  split
  · rw [List.length_map]; omega
  · rw [List.length_append, List.length_cons, List.length_nil]; omega
theorem RelO.isSome_eq {o : Option V} {u : Option Value} (r : RelO o u) : o.isSome = u.isSome := by
  cases o with
  | none => cases u with
    | none => rfl
    | some _ => exact (show False from r).elim
  | some _ => cases u with
    | none => exact (show False from r).elim
    | some _ => rfl
theorem KV.val {kvs : List (κ × V)} {vs : List (κ × Value)} (r : KV kvs vs) (k : κ) : RelO (valV kvs k) (valueAt vs k) := by
  unfold KV at r
  induction r with
  | nil => exact True.intro
  | @cons p q ps qs h t ih =>
    obtain ⟨h1, h2⟩ := h
    by_cases e : p.1 = k
    · have e' : q.1 = k := h1.symm.trans e
      have b : valueAt (q :: qs) k = some q.2 := by simp [valueAt, List.find?_cons, e']
      rw [valV_pos e, b]; exact h2
    · have e' : ¬ q.1 = k := fun z => e (h1.trans z)
      have b : valueAt (q :: qs) k = valueAt qs k := by simp [valueAt, List.find?_cons, e']
      rw [valV_neg e, b]; exact ih
theorem KV.any {kvs : List (κ × V)} {vs : List (κ × Value)} (r : KV kvs vs) (k : κ) : (kvs.any fun kv => decide (kv.1 = k)) = vs.any fun kv => decide (kv.1 = k) := by
  unfold KV at r
  induction r with
  | nil => rfl
  | cons h t ih => rw [List.any_cons, List.any_cons, ih, h.1]
theorem KV.repl {kvs : List (κ × V)} {vs : List (κ × Value)} (r : KV kvs vs) (k : κ) {y : V} {u : Value} (ry : RelV y u) :
    KV (kvs.map fun kv => if kv.1 = k then (kv.1, y) else kv) (vs.map fun kv => if kv.1 = k then (kv.1, u) else kv) := by
  unfold KV at r ⊢
  induction r with
  | nil => exact .nil
  | @cons p q ps qs h t ih =>
    rw [List.map_cons, List.map_cons]
    refine .cons ?_ ih
    obtain ⟨h1, h2⟩ := h
    by_cases e : p.1 = k
    · rw [if_pos e, if_pos (h1.symm.trans e)]; exact ⟨h1, ry⟩
    · rw [if_neg e, if_neg (fun z => e (h1.trans z))]; exact ⟨h1, h2⟩
theorem KV.put {kvs : List (κ × V)} {vs : List (κ × Value)} (r : KV kvs vs) (k : κ) {y : V} {u : Value} (ry : RelV y u) : KV (putK kvs k y) (stored vs k u) := by
  unfold putK stored
  rw [r.any k]
  by_cases e : (vs.any fun kv => decide (kv.1 = k)) = true
  · rw [if_pos e, if_pos e]; exact r.repl k ry
  · rw [if_neg e, if_neg e]; exact Paired.snoc r ⟨rfl, ry⟩
theorem KV.length {kvs : List (κ × V)} {vs : List (κ × Value)} (r : KV kvs vs) : kvs.length = vs.length := Paired.length r
end
theorem kV_is {P : Program} {w : World} {k : Key} {u : Value} (r : RelV (kV k) u) : (mixKind P w).is k u = true := by
  cases k with
  | inl i => obtain ⟨t, e⟩ := (show ∃ t, u = Value.int i t from r); subst e; exact mixKind_int P w i t
  | inr x => obtain ⟨t, e⟩ := (show ∃ t, u = Value.str x t from r); subst e; exact mixKind_str P w x t
theorem items_are {P : Program} {w : World} : ∀ {ks : List Key} {us : List Value}, Vals (ks.map kV) us → ItemsAre (mixKind P w) ks us
  | [], _, r => by rw [List.map_nil] at r; cases r; exact .nil
  | k :: ks, _, r => by
    rw [List.map_cons] at r
    cases r with
    | cons h t => exact .cons (kV_is h) (items_are t)
abbrev KT (H : Hp) : List (List Key × V) → List (List Key × Addr × Value) → Prop := Paired fun p q => p.1 = q.1 ∧ H q.2.1 = some (.tup (p.1.map kV)) ∧ RelV p.2 q.2.2
theorem KT.val {H : Hp} {kvs : List (List Key × V)} {xs : List (List Key × Addr × Value)} (r : KT H kvs xs) (k : List Key) : RelO (valV kvs k) ((atKey xs k).map (·.2)) := by
  induction r with
  | nil => exact True.intro
  | @cons p q ps qs h t ih =>
    obtain ⟨h1, _, h2⟩ := h
    by_cases e : p.1 = k
    · have e' : q.1 = k := h1.symm.trans e
      have b : atKey (q :: qs) k = some q.2 := by simp [atKey, List.find?_cons, e']
      rw [valV_pos e, b]; exact h2
    · have e' : ¬ q.1 = k := fun z => e (h1.trans z)
      have b : atKey (q :: qs) k = atKey qs k := by simp [atKey, List.find?_cons, e']
      rw [valV_neg e, b]; exact ih
theorem KT.repl {H : Hp} {kvs : List (List Key × V)} {xs : List (List Key × Addr × Value)} (r : KT H kvs xs) (k : List Key) {y : V} {u : Value} (ry : RelV y u) :
    KT H (kvs.map fun kv => if kv.1 = k then (kv.1, y) else kv) (xs.map (putAt k u)) := by
  induction r with
  | nil => exact .nil
  | @cons p q ps qs h t ih =>
    rw [List.map_cons, List.map_cons]
    refine .cons ?_ ih
    obtain ⟨h1, h2, h3⟩ := h
    unfold putAt
    by_cases e : p.1 = k
    · rw [if_pos e, if_pos (h1.symm.trans e)]; exact ⟨h1, h2, ry⟩
    · rw [if_neg e, if_neg (fun z => e (h1.trans z))]; exact ⟨h1, h2, h3⟩
theorem KT.put {H : Hp} {kvs : List (List Key × V)} {xs : List (List Key × Addr × Value)} (r : KT H kvs xs) (k : List Key) {b : Addr} {y : V} {u : Value} (hb : H b = some (.tup (k.map kV))) (ry : RelV y u) :
    KT H (putK kvs k y) (storedH xs k b u) := by
  have e : (kvs.any fun kv => decide (kv.1 = k)) = (atKey xs k).isSome := by
    rw [valV_any, (r.val k).isSome_eq, Option.isSome_map]
  unfold putK storedH
  rw [e]
  by_cases q : (atKey xs k).isSome = true
  · rw [if_pos q, if_pos q]; exact r.repl k ry
  · rw [if_neg q, if_neg q]; exact Paired.snoc r ⟨rfl, hb, ry⟩
theorem KT.keeps {H H' : Hp} {kvs : List (List Key × V)} {xs : List (List Key × Addr × Value)} (r : KT H kvs xs) (ht : ∀ b ys, H b = some (.tup ys) → H' b = some (.tup ys)) : KT H' kvs xs :=
  Paired.mapP r fun _ _ z => ⟨z.1, ht _ _ z.2.1, z.2.2⟩
section
variable {P : Program} {w : World} {H : Hp} {h : Heap} {a : Addr}
theorem rd_of {u : HO} (ok : HOk P w H h) (e : Rd H a u) : ObjOk P w H h a u := e.ok ok
theorem dk_rd {kvs : List (Key × V)} (ok : HOk P w H h) (e : Rd H a (.dK kvs)) : kvs.length ≤ sizeLine ∧ (a == sysModules) = false ∧ ∃ vs, KV kvs vs ∧ h.DictOf (mixKind P w) a vs :=
  show ObjOk P w H h a (.dK kvs) from rd_of ok e
theorem dk_of {kvs : List (Key × V)} (ok : HOk P w H h) (e : H a = some (.dK kvs)) : kvs.length ≤ sizeLine ∧ (a == sysModules) = false ∧ ∃ vs, KV kvs vs ∧ h.DictOf (mixKind P w) a vs := dk_rd ok (.inl e)
theorem key_of {ks : List Key} (ok : HOk P w H h) (e : H a = some (.tup (ks.map kV))) : (tupleKind (mixKind P w)).is h ks a := by
  obtain ⟨_, its, r, o, h1, h2, n, h3⟩ := (show ObjOk P w H h a (.tup (ks.map kV)) from ok a _ e)
  exact ⟨o, its.toArray, n, h1, h2, h3, by simpa using items_are r⟩
theorem dt_rd {kvs : List (List Key × V)} (ok : HOk P w H h) (e : Rd H a (.dT kvs)) : kvs.length ≤ sizeLine ∧ (a == sysModules) = false ∧
    ∃ xs, KT H kvs xs ∧ h.DictOfH (tupleKind (mixKind P w)) a xs := by
  obtain ⟨z, y, xs, r, o, es, ep, h1, h2, h3, h4, h5⟩ := (show ObjOk P w H h a (.dT kvs) from rd_of ok e)
  refine ⟨z, y, xs, r, o, es, ep, h1, h2, h3, h4, fun x hx => ?_, h5⟩
  have all : ∀ {l : List (List Key × V)} {m : List (List Key × Addr × Value)}, KT H l m → ∀ x ∈ m, (tupleKind (mixKind P w)).is h x.1 x.2.1 := by
    intro l m q
    induction q with
    | nil => intro x hx; exact nomatch hx
    | @cons p q ps qs hq t ih =>
      intro x hx
      rcases List.mem_cons.mp hx with e | hx
      · subst e
        exact key_of ok (by rw [← hq.1]; exact hq.2.1)
      · exact ih x hx
  exact all r x hx
theorem dt_of {kvs : List (List Key × V)} (ok : HOk P w H h) (e : H a = some (.dT kvs)) : kvs.length ≤ sizeLine ∧ (a == sysModules) = false ∧
    ∃ xs, KT H kvs xs ∧ h.DictOfH (tupleKind (mixKind P w)) a xs := dt_rd ok (.inl e)
end
def DGet (H : Hp) (a : Addr) (y : V) (r : Option V) : Prop :=
  (∃ kvs k, Rd H a (.dK kvs) ∧ y = kV k ∧ r = valV kvs k) ∨ ∃ kvs k b, Rd H a (.dT kvs) ∧ y = .ref b ∧ H b = some (.tup (k.map kV)) ∧ r = valV kvs k
def DPut (H : Hp) (a : Addr) (y v : V) (H' : Hp) : Prop :=
  (∃ kvs k, H a = some (.dK kvs) ∧ y = kV k ∧ kvs.length < sizeLine ∧ H' = upd H a (.dK (putK kvs k v))) ∨
  ∃ kvs k b, H a = some (.dT kvs) ∧ y = .ref b ∧ H b = some (.tup (k.map kV)) ∧ kvs.length < sizeLine ∧ H' = upd H a (.dT (putK kvs k v))
theorem DGet.k {H : Hp} {a : Addr} {kvs : List (Key × V)} {k : Key} (e : H a = some (.dK kvs)) : DGet H a (kV k) (valV kvs k) := .inl ⟨kvs, k, .inl e, rfl, rfl⟩
theorem DPut.k {H : Hp} {a : Addr} {kvs : List (Key × V)} {k : Key} {v : V} (e : H a = some (.dK kvs)) (hl : kvs.length < sizeLine) : DPut H a (kV k) v (upd H a (.dK (putK kvs k v))) := .inl ⟨kvs, k, e, rfl, hl, rfl⟩
section
variable {X : Cx} {pins : List (Addr × Obj)} {σ : St} {H : Hp} {s : Shared} {a : Addr} {y v : V} {u r : Value} {o : Option V} {A : Around} {E : Value → Shared → Prop}
theorem Inv.big (I : Inv X pins σ H s) : sysModules < s.heap.objs.size := by
  have h : mainGlobals < s.heap.objs.size := (I.mod.glob.keeps I.bk).lt
  exact Nat.lt_trans (by decide) h
theorem d_getItem {Q : Value → Shared → Prop} (hu : A.units + 1 < cLine) (I : Inv X pins σ H s) (g : DGet H a y (some v)) (ry : RelV y u) (h : ∀ w' s', Inv X pins σ H s' → RelV v w' → Q w' s') :
    wpAny (model X.prog X.w) A (getItem (.ref a) u) Q E s := by
  rcases g with ⟨kvs, k, e, ey, l⟩ | ⟨kvs, k, b, e, ey, eb, l⟩
  · subst ey
    obtain ⟨z, hd, vs, rel, dd⟩ := dk_rd I.hok e
    obtain ⟨w', hw, rw'⟩ := RelO.some_of (v := v) (o := valueAt vs k) (by rw [l]; exact rel.val k)
    exact wpAny_getItem_of (kV_is ry) dd.mapOf hw (h w' _ (I.tok _) rw')
  · subst ey
    cases (show u = Value.ref b from ry)
    obtain ⟨z, hd, xs, rel, dd⟩ := dt_rd I.hok e
    obtain ⟨w', hw, rw'⟩ := RelO.some_of (v := v) (o := (atKey xs k).map (·.2)) (by rw [l]; exact rel.val k)
    obtain ⟨p, hp, hp2⟩ := Option.map_eq_some_iff.mp hw
    refine wpAny_getItem_heap (tupleKind_room_in1 hu) (key_of I.hok eb) dd hp ?_
    rw [hp2]
    exact h w' _ (I.tok _) rw'
theorem d_in {Q : Value → Shared → Prop} (hu : A.units + 1 < cLine) (I : Inv X pins σ H s) (g : DGet H a y o) (ry : RelV y u) (h : ∀ s', Inv X pins σ H s' → Q (.bool o.isSome) s') :
    wpAny (model X.prog X.w) A (compareOp .In u (.ref a)) Q E s := by
  rcases g with ⟨kvs, k, e, ey, l⟩ | ⟨kvs, k, b, e, ey, eb, l⟩
  · subst ey
    obtain ⟨z, hd, vs, rel, dd⟩ := dk_rd I.hok e
    refine wpAny_in_of (kV_is ry) hd dd.mapOf ?_
    rw [← (rel.val k).isSome_eq, ← l]
    exact h _ (I.tok _)
  · subst ey
    cases (show u = Value.ref b from ry)
    obtain ⟨z, hd, xs, rel, dd⟩ := dt_rd I.hok e
    refine wpAny_in_heap (tupleKind_room_in1 hu) (key_of I.hok eb) hd dd ?_
    have q := (rel.val k).isSome_eq
    rw [Option.isSome_map] at q
    rw [← q, ← l]
    exact h _ (I.tok _)
theorem d_notIn {Q : Value → Shared → Prop} (hu : A.units + 1 < cLine) (I : Inv X pins σ H s) (g : DGet H a y o) (ry : RelV y u) (h : ∀ s', Inv X pins σ H s' → Q (.bool (!o.isSome)) s') :
    wpAny (model X.prog X.w) A (compareOp .NotIn u (.ref a)) Q E s := by
  rcases g with ⟨kvs, k, e, ey, l⟩ | ⟨kvs, k, b, e, ey, eb, l⟩
  · subst ey
    obtain ⟨z, hd, vs, rel, dd⟩ := dk_rd I.hok e
    refine wpAny_notIn_of (kV_is ry) hd dd.mapOf ?_
    rw [← (rel.val k).isSome_eq, ← l]
    exact h _ (I.tok _)
  · subst ey
    cases (show u = Value.ref b from ry)
    obtain ⟨z, hd, xs, rel, dd⟩ := dt_rd I.hok e
    refine wpAny_notIn_heap (tupleKind_room_in1 hu) (key_of I.hok eb) hd dd ?_
    have q := (rel.val k).isSome_eq
    rw [Option.isSome_map] at q
    rw [← q, ← l]
    exact h _ (I.tok _)
theorem d_write {h' : Heap} {t' : Nat} {ob : HO} (I : Inv X pins σ H s) (mu : Mut (H a)) (hs : Heap.SameBut a s.heap h') (he : ∃ q, h'.get? a = some q) (new : ObjOk X.prog X.w (upd H a ob) h' a ob) :
    Inv X pins σ (upd H a ob) { s with heap := h', toks := t' } :=
  I.write (x := a) (e := a) mu (.inl rfl) (fun b q hb z => (hs.2 b hb).trans z) he new
theorem dk_new {P : Program} {w : World} {H' : Hp} {h' : Heap} {kvs : List (Key × V)} {vs : List (Key × Value)} (z : kvs.length ≤ sizeLine) (hd : (a == sysModules) = false) (rel : KV kvs vs) (dd : h'.DictOf (mixKind P w) a vs) :
    ObjOk P w H' h' a (.dK kvs) := ⟨z, hd, vs, rel, dd⟩
theorem d_setItem {H' : Hp} {Q : Unit → Shared → Prop} (hu : A.units + 1 < cLine) (I : Inv X pins σ H s) (g : DPut H a y v H') (ry : RelV y u) (rv : RelV v r) (h : ∀ s', Inv X pins σ H' s' → Q () s') :
    wpAny (model X.prog X.w) A (setItem (.ref a) u r) Q E s := by
  rcases g with ⟨kvs, k, e, ey, l, eH⟩ | ⟨kvs, k, b, e, ey, eb, l, eH⟩
  · subst ey eH
    obtain ⟨z, hd, vs, rel, dd⟩ := dk_of I.hok e
    have hz : vs.length ≤ sizeLine := by rw [← rel.length]; exact z
    have hl : (putK kvs k v).length ≤ sizeLine := by have := length_putK kvs k v; omega
    refine wpAny_setItem_pairs (hsz := hz) (kV_is ry) dd fun h' dd' hs => h _ ?_
    have he : ∃ q, h'.get? a = some q := let ⟨q, _, _, hq, _⟩ := dd'; ⟨q, hq⟩
    exact d_write I (by rw [e]; exact True.intro) hs he (dk_new hl hd (rel.put k rv) dd')
  · subst ey eH
    cases (show u = Value.ref b from ry)
    obtain ⟨z, hd, xs, rel, dd⟩ := dt_of I.hok e
    have hz : xs.length ≤ sizeLine := by rw [← Paired.length rel]; exact z
    have hl : (putK kvs k v).length ≤ sizeLine := by have := length_putK kvs k v; omega
    refine wpAny_setItem_heap (hsz := hz) (tupleKind_room_in1 hu) (key_of I.hok eb) dd fun h' dd' hs => h _ ?_
    obtain ⟨q, es, ep, hq, h2, h3, h4, _, h5⟩ := dd'
    refine d_write I (by rw [e]; exact True.intro) hs ⟨q, hq⟩ ⟨hl, hd, _, (rel.put k eb rv).keeps fun c ys ec => ?_, q, es, ep, hq, h2, h3, h4, h5⟩
    rw [upd_ne (ne_of ec e (fun z => nomatch z))]
    exact ec
end
section
variable {X : Cx} {pins : List (Addr × Obj)} {σ : St} {H : Hp} {s : Shared} {a : Addr} {kvs : List (Key × V)} {k : Key} {u : Value} {A : Around} {E : Value → Shared → Prop}
end
def NoSl (i : Expr) : Prop := ∀ ov iv, subscripted i false ov iv = operate [ov, iv] (getItem ov iv)
theorem subD_of {prog : Program} {w : World} {A : Around} {E : Value → Shared → Prop} {s : Shared} {env : Env} {value slice : Expr} {pos : Pos} {T id : String} {Q : Value → Shared → Prop}
    (hl : typeLookup (.type T) "__getitem__" = pure (some (.builtin id))) (hs : NoSl slice)
    (h : wpAny (model prog w) A (eval value env) (fun o s₁ => wpAny (model prog w) A (eval slice env) (fun i s₂ => s₂.TypeIs o T ∧ wpAny (model prog w) A (getItem o i) Q E s₂) E s₁) E s) :
    wpAny (model prog w) A (eval (.Subscript value slice pos) env) Q E s := by
  refine Subscript_ (wpAny_mono h (fun o s₁ h₁ => wpAny_mono h₁ (fun i s₂ h₂ => ?_) fun _ _ x => x) fun _ _ x => x)
  obtain ⟨hT, h₂⟩ := h₂
  unfold subscriptTail
  refine wpAny_bind ?_
  rw [getitemInPython_of_ne hT.not_modules]
  refine wpAny_bind (wpAny_specialOf hT hl ?_)
  have fin : wpAny (model prog w) A (subscripted slice false o i) (fun r s₃ => wpAny (model prog w) A (letTemporaryGo value o r >>= fun _ => pure r) Q E s₃) E s₂ := by
    rw [hs o i]
    exact wpAny_operating (wpAny_mono h₂ (fun r s₃ h₃ => wpAny_bind (wpAny_letTemporaryGo (wpAny_pure h₃))) fun _ _ x => x)
  first
    | exact wpAny_pure (wpAny_bind fin)
    | exact wpAny_bind (wpAny_pure (wpAny_bind fin))
    | exact wpAny_bind fin
theorem dict_typeIs {X : Cx} {pins : List (Addr × Obj)} {σ : St} {H : Hp} {s : Shared} {a : Addr} {y : V} {o : Option V} (I : Inv X pins σ H s) (g : DGet H a y o) : s.TypeIs (.ref a) "dict" := by
  rcases g with ⟨kvs, k, e, _, _⟩ | ⟨kvs, k, b, e, _, _, _⟩
  · obtain ⟨_, _, vs, _, dd⟩ := dk_rd I.hok e
    exact dd.typeIs
  · obtain ⟨_, _, xs, _, dd⟩ := dt_rd I.hok e
    exact dd.typeIs
def tDGet (td ty : TE) : TE := fun σ H Q => td σ H fun x H1 => ty σ H1 fun y H2 => ∃ a v, x = .ref a ∧ DGet H2 a y (some v) ∧ Q v H2
def sDPut (td ty tv : TE) : TS := fun D σ H => tv σ H fun v H1 => td σ H1 fun x H2 => ty σ H2 fun y H3 => ∃ a H4, x = .ref a ∧ DPut H3 a y v H4 ∧ D.nx σ H4
section
variable {X : Cx} {o i e value : Expr} {pos pos' tpos : Pos} {td ty tv : TE}
theorem pe_dget (hu : X.A.units + 1 < cLine) (ho : PE X o td) (hi : PE X i ty) (hs : NoSl i) : PE X (.Subscript o i pos) (tDGet td ty) := by
  intro pins s σ H Q I h
  refine subD_of PySem.F.slot_dict_getitem.lookup hs (thn (ho pins s σ H _ I h) fun u s1 ⟨x, H1, I1, rx, q1⟩ => thn (hi pins s1 σ H1 _ I1 q1) fun iv s2 ⟨y, H2, I2, ry, a, v, ex, g, q2⟩ => ?_)
  subst ex
  obtain rfl : u = Value.ref a := rx
  exact ⟨dict_typeIs I2 g, d_getItem hu I2 g ry fun w' s3 I3 rw' => ⟨v, H2, I3, rw', q2⟩⟩
theorem ps_dput (hu : X.A.units + 1 < cLine) (ho : PE X o td) (hi : PE X i ty) (hv : PE X value tv) (hs : swapsWith value (some (.Subscript o i pos')) pos.line X.env = pure false) :
    PS X (.Assign [.Subscript o i pos'] value pos) (sDPut td ty tv) := by
  intro pins s σ H D I h
  refine wpAny_Assign_Subscript (thn (hv pins s σ H _ I h) fun r s1 ⟨v, H1, I1, rv, q1⟩ => thn (ho pins s1 σ H1 _ I1 q1) fun u s2 ⟨x, H2, I2, rx, q2⟩ => thn (hi pins s2 σ H2 _ I2 q2) fun iv s3 ⟨y, H3, I3, ry, a, H4, ex, g, q3⟩ => ?_) hs
  subst ex
  obtain rfl : u = Value.ref a := rx
  exact d_setItem hu I3 g ry rv fun s4 I4 => ⟨σ, H4, I4, q3⟩
end
theorem dk_empty {P : Program} {w : World} {H : Hp} (h : Heap) (hb : sysModules < h.objs.size) : ObjOk P w H (h.push { cls := .type "dict", data := .dict #[] }) h.objs.size (.dK []) :=
  ⟨Nat.zero_le _, beq_eq_false_iff_ne.mpr (Ne.symm (Nat.ne_of_lt hb)), [], .nil, Heap.DictOf.new h⟩
section
variable {X : Cx} {pos : Pos}
end
def tPairs : List (TE × TE) → St → Hp → (List (V × V) → Hp → Prop) → Prop
  | [], _, H, Q => Q [] H
  | (tk, tv) :: r, σ, H, Q => tk σ H fun x H1 => tv σ H1 fun y H2 => tPairs r σ H2 fun ps H3 => Q ((x, y) :: ps) H3
abbrev VV : List (V × V) → List (Value × Value) → Prop := Paired fun p q => RelV p.1 q.1 ∧ RelV p.2 q.2
def PPs (X : Cx) (pos : Pos) (keys : List (Option Expr)) (values : List Expr) (trs : List (TE × TE)) : Prop :=
  ∀ (pins : List (Addr × Obj)) (s : Shared) (σ : St) (H : Hp) (Q : List (V × V) → Hp → Prop), Inv X pins σ H s → tPairs trs σ H Q →
    wpAny (model X.prog X.w) X.A (evalPairs (pairTrees keys values X.env pos)) (fun vs s' => ∃ ps H', Inv X pins σ H' s' ∧ VV ps vs ∧ Q ps H') X.xe s
theorem pps_nil {X : Cx} {pos : Pos} : PPs X pos [] [] [] := fun pins s σ H Q I h => pairTrees_nil_walk ⟨[], H, I, .nil, h⟩
theorem pps_cons {X : Cx} {pos : Pos} {k v : Expr} {ks : List (Option Expr)} {vs : List Expr} {tk tv : TE} {trs : List (TE × TE)} (hk : PE X k tk) (hv : PE X v tv) (hr : PPs X pos ks vs trs) :
    PPs X pos (some k :: ks) (v :: vs) ((tk, tv) :: trs) := fun pins s σ H Q I h =>
  pairTrees_cons_walk (thn (hk pins s σ H _ I h) fun u s1 ⟨x, H1, I1, rx, q1⟩ => thn (hv pins s1 σ H1 _ I1 q1) fun w2 s2 ⟨y, H2, I2, ry, q2⟩ =>
    thn (hr pins s2 σ H2 _ I2 q2) fun ws s3 ⟨ps, H3, I3, rel, q3⟩ => ⟨(x, y) :: ps, H3, I3, .cons ⟨rx, ry⟩ rel, q3⟩)
def mergeK (kvs more : List (Key × V)) : List (Key × V) := more.foldl (fun acc kv => putK acc kv.1 kv.2) kvs
theorem KV.merge : ∀ {more : List (Key × V)} {rs : List (Key × Value)} {kvs : List (Key × V)} {vs : List (Key × Value)}, KV more rs → KV kvs vs → KV (mergeK kvs more) (merged vs rs) := by
  intro more rs kvs vs r
  unfold KV at r
  induction r generalizing kvs vs with
  | nil => intro q; exact q
  | @cons p q ps qs h t ih =>
    intro r0
    have e : KV (putK kvs p.1 p.2) (stored vs q.1 q.2) := by
      have := r0.put p.1 h.2
      rw [← h.1]; exact this
    exact ih e
theorem length_mergeK : ∀ (more kvs : List (Key × V)), (mergeK kvs more).length ≤ kvs.length + more.length
  | [], kvs => by show kvs.length ≤ kvs.length + 0; omega
  | p :: r, kvs => by
    have h1 := length_mergeK r (putK kvs p.1 p.2)
    have h2 := length_putK kvs p.1 p.2
    show (mergeK (putK kvs p.1 p.2) r).length ≤ _
    rw [List.length_cons]; omega
theorem carries_of {P : Program} {w : World} : ∀ {kvs : List (Key × V)} {ws : List (Value × Value)}, VV (kvs.map fun kv => (kV kv.1, kv.2)) ws → ∃ rs, Carries (mixKind P w) ws rs ∧ KV kvs rs
  | [], _, r => by rw [List.map_nil] at r; cases r; exact ⟨[], True.intro, .nil⟩
  | p :: kvs, _, r => by
    rw [List.map_cons] at r
    cases r with
    | @cons a b as bs h t =>
      obtain ⟨rs, c, q⟩ := carries_of (P := P) (w := w) t
      obtain ⟨b1, b2⟩ := b
      exact ⟨(p.1, b2) :: rs, ⟨kV_is h.1, rfl, c⟩, .cons ⟨rfl, h.2⟩ q⟩
def tDisp (trs : List (TE × TE)) : TE := fun σ H Q => ∀ p, H p = none → tPairs trs σ (upd H p (.dK [])) fun ps H2 => H2 p = some (.dK []) ∧ ∃ kvs : List (Key × V), ps = kvs.map (fun kv => (kV kv.1, kv.2)) ∧ kvs.length ≤ 15 ∧ Q (.ref p) (upd H2 p (.dK (mergeK [] kvs)))
theorem pe_disp {X : Cx} {pos : Pos} {keys : List (Option Expr)} {values : List Expr} {trs : List (TE × TE)} (h : PPs X pos keys values trs) (hall : keys.all (·.isSome) = true) (hl : keys.length = values.length) (h0 : keys ≠ [])
    (h15 : keys.length ≤ 15) : PE X (.Dict keys values pos) (tDisp trs) := by
  intro pins s σ H Q I q
  have hn := I.hok.fresh (Nat.le_refl s.heap.objs.size)
  have I1 := I.laid (a := s.heap.objs.size) (o := .dK []) (h' := s.heap.push { cls := .type "dict", data := .dict #[] }) (t' := s.toks) (fun _ _ q => Heap.get?_push_of_some _ q) (Nat.le_refl _) (dk_empty s.heap I.big)
  refine wpAny_Dict_walk (knd := mixKind X.prog X.w) hall hl h0 h15 (thn (h pins _ σ _ _ I1 (q _ hn)) fun ws s2 ⟨ps, H2, I2, rel, e, kvs, ep, lk, q2⟩ => ?_)
  subst ep
  obtain ⟨rs, c, rk⟩ := carries_of (P := X.prog) (w := X.w) rel
  obtain ⟨z, hd, vs0, r0, dd⟩ := dk_of I2.hok e
  cases r0
  refine ⟨rs, c, dd, fun h' dd' hs => ⟨.ref s.heap.objs.size, _, ?_, rfl, q2⟩⟩
  have hz : (mergeK [] kvs).length ≤ sizeLine := by
    have h1 := length_mergeK kvs []
    rw [List.length_nil] at h1
    rw [sizeLine_eq]; omega
  have he : ∃ q, h'.get? s.heap.objs.size = some q := let ⟨q, _, _, hq, _⟩ := dd'; ⟨q, hq⟩
  exact d_write I2 (by rw [e]; exact True.intro) hs he (dk_new hz hd (rk.merge .nil) dd')
section
variable {X : Cx} {pins : List (Addr × Obj)} {σ : St} {H : Hp} {s : Shared} {a : Addr} {y d : V} {u r : Value} {o : Option V} {A : Around} {E : Value → Shared → Prop}
end
section
variable {X : Cx} {o e f : Expr} {apos cpos : Pos} {td ty tx : TE}
end
section
variable {X : Cx} {pins : List (Addr × Obj)} {σ : St} {H : Hp} {s : Shared} {a : Addr} {kvs : List (Key × V)} {A : Around} {E : Value → Shared → Prop}
end
section
variable {X : Cx} {pins : List (Addr × Obj)} {σ : St} {H : Hp} {s : Shared} {a : Addr} {y : V} {u : Value} {A : Around} {E : Value → Shared → Prop}
end
end L2
namespace HT
open PySem PyProof.Rows
section
open PySem.SeqAt
open PySem.AutoSeq1 (wpAny_loadPart')
open PySem.MeetsSeq PySem.MeetsSeq2 PySem.MeetsSeq3
end
section
variable {prog : Program} {w : World} {A : Around} {E : Value → Shared → Prop} {s : Shared}
end
end HT
namespace L2
open PySem PySem.Spec PyProof.Rows
section
variable {X : Cx} {e : Expr} {te : TE} {lo hi : Option Expr} {tl th : TO} {pos p2 : Pos}
end
end L2
namespace L2
open PySem PySem.Spec PyProof.Rows
def ixN (n : Nat) (i : Int) : Option Nat := if 0 ≤ i then (if i < n then some i.toNat else none) else if -(n : Int) ≤ i then some (i + n).toNat else none
def atI {α : Type} (xs : List α) (i : Int) : Option α := (ixN xs.length i).bind fun j => xs[j]?
theorem ixN_seq {n : Nat} {i : Int} {j : Nat} (h : ixN n i = some j) : seqIndex? i n = some j ∧ j < n ∧ -(n : Int) ≤ i ∧ i < n := by
  unfold ixN at h
  by_cases h0 : 0 ≤ i
  · rw [if_pos h0] at h
    by_cases h1 : i < n
    · rw [if_pos h1] at h
      have e : i.toNat = j := Option.some.inj h
      exact ⟨by rw [seqIndex_of h0 h1, e], by omega, by omega, h1⟩
    · rw [if_neg h1] at h; cases h
  · rw [if_neg h0] at h
    by_cases h1 : -(n : Int) ≤ i
    · rw [if_pos h1] at h
      have e : (i + n).toNat = j := Option.some.inj h
      exact ⟨by rw [seqIndex_neg (by omega) h1, e], by omega, h1, by omega⟩
    · rw [if_neg h1] at h; cases h
theorem atI_get {α : Type} {xs : List α} {i : Int} {v : α} (h : atI xs i = some v) : ∃ j, seqIndex? i xs.length = some j ∧ xs[j]? = some v ∧ j < xs.length ∧ -(xs.length : Int) ≤ i ∧ i < xs.length := by
  unfold atI at h
  cases e : ixN xs.length i with
  | none => rw [e] at h; cases h
  | some j =>
    rw [e] at h
    obtain ⟨h1, h2, h3, h4⟩ := ixN_seq e
    exact ⟨j, h1, h, h2, h3, h4⟩
theorem atI_nat {α : Type} {xs : List α} {j : Nat} {v : α} (h : xs[j]? = some v) : atI xs (j : Int) = some v := by
  have hj : j < xs.length := (List.getElem?_eq_some_iff.mp h).1
  have e : ixN xs.length (j : Int) = some j := by
    unfold ixN
    rw [if_pos (by omega), if_pos (by omega)]; simp
  unfold atI; rw [e]; exact h
def PlainIx (b : Expr) : Prop := ∀ o i, subscripted b false o i = operate [o, i] (getItem o i)
def IxR (X : Cx) (r : R2) : Prop :=
  ∀ (value slice : Expr) (pins : List (Addr × Obj)) (s : Shared) (σ : St) (H : Hp) (x y : V) (v u : Value) (Q : VK), Inv X pins σ H s → RelV x v → RelV y u → r x y H Q →
    subscripted slice false v u = operate [v, u] (getItem v u) → wpAny (model X.prog X.w) X.A (subscriptTail value slice v u) (EP X pins σ Q) X.xe s
def MtR (X : Cx) (id : String) (r : V → List V → Hp → VK → Prop) : Prop :=
  ∀ (pins : List (Addr × Obj)) (s : Shared) (σ : St) (H : Hp) (x : V) (xs : List V) (v : Value) (us : List Value) (Q : VK), Inv X pins σ H s → RelV x v → Vals xs us → r x xs H Q →
    wpAny (model X.prog X.w) X.A (call (.builtin id) (v :: us)) (EP X pins σ Q) X.xe s
section
variable {X : Cx} {a b : Expr} {ta tb : TE} {pos : Pos}
theorem pe_ix {r : R2} (hr : IxR X r) (ha : PE X a ta) (hb : PE X b tb) (hs : PlainIx b) : PE X (.Subscript a b pos) (tOp r ta tb) := by
  intro pins s σ H Q I h
  exact Subscript_ (binT ha hb I h fun v u s2 x y H2 I2 rx ry q => hr a b pins s2 σ H2 x y v u Q I2 rx ry q (hs _ _))
def rIxL (K : PySem.W.Frag) : R2 := fun x y H Q => ∃ p xs i v, x = .ref p ∧ y = .int i ∧ SqL K H p xs ∧ atI xs i = some v ∧ Q v H
def rIxT (K : PySem.W.Frag) : R2 := fun x y H Q => ∃ p xs i v, x = .ref p ∧ y = .int i ∧ SqT K H p xs ∧ atI xs i = some v ∧ Q v H
theorem ix_list : IxR X (rIxL X.K) := by
  intro value slice pins s σ H x y v u Q I rx ry h hs
  obtain ⟨p, xs, i, z, rfl, rfl, hq, he, q⟩ := h
  cases rx
  obtain ⟨t, rfl⟩ := ry
  obtain ⟨its, r, pl, hz⟩ := I.list hq
  obtain ⟨j, h1, h2, h3, h4, h5⟩ := atI_get he
  obtain ⟨w, ew, rw'⟩ := r.get h2
  have hl := r.length
  have hn := line63
  have fin : EP X pins σ Q w s := ⟨z, H, I, rw', q⟩
  by_cases h0 : 0 ≤ i
  · have hj : i.toNat = j := by
      rw [seqIndex_of h0 h5] at h1
      exact Option.some.inj h1
    exact item_listR pl.isList h0 (by omega) (by rw [hj]; simpa using ew) fin hs
  · have hj : (i + (its.toArray.size : Int)).toNat = j := by
      rw [seqIndex_neg (by omega) h4] at h1
      rw [List.size_toArray, ← hl]
      exact Option.some.inj h1
    exact subscriptTail_builtinR (x := w) pl.isList.typeIs slot_list_getitem.lookup
      (wpAny_getItem_list_neg (Q := fun r s' => r = w ∧ EP X pins σ Q r s') pl.isList (by omega) (by rw [List.size_toArray] <;> omega) (by omega) (by rw [hj]; simpa using ew) ⟨rfl, fin⟩) hs
theorem ix_tup : IxR X (rIxT X.K) := by
  intro value slice pins s σ H x y v u Q I rx ry h hs
  obtain ⟨p, xs, i, z, rfl, rfl, hq, he, q⟩ := h
  cases rx
  obtain ⟨t, rfl⟩ := ry
  obtain ⟨its, r, pl, hz⟩ := I.tuple hq
  obtain ⟨j, h1, h2, h3, h4, h5⟩ := atI_get he
  obtain ⟨w, ew, rw'⟩ := r.get h2
  have hl := r.length
  have hn := line63
  have fin : EP X pins σ Q w s := ⟨z, H, I, rw', q⟩
  exact subscriptTail_builtinR (x := w) pl.typeIs slot_tuple_getitem.lookup
    (getItem_tuple (j := j) (Q := fun r s' => r = w ∧ EP X pins σ Q r s') pl (by omega) (by omega) (by rw [List.size_toArray, ← hl]; exact h1) (by simpa using ew) ⟨rfl, fin⟩) hs
theorem mapSeq_set (its : List Value) (n j : Nat) (u : Value) : Obj.mapSeq (·.setIfInBounds j u) { cls := .type "list", data := .seq its.toArray n } = { cls := .type "list", data := .seq (its.set j u).toArray n } := by
  simp [Obj.mapSeq]
theorem Inv.lst {pins : List (Addr × Obj)} {σ : St} {H : Hp} {s : Shared} {p : Addr} {xs : List V} (I : Inv X pins σ H s) (h : H p = some (.lst xs)) :
    ∃ (its : List Value) (n : Nat), Vals xs its ∧ s.heap.get? p = some { cls := .type "list", data := .seq its.toArray n } ∧ xs.length ≤ sizeLine := by
  obtain ⟨z, its, n, r, e⟩ := I.hok p _ h
  exact ⟨its, n, r, e, z⟩
theorem Inv.lstUpd {pins : List (Addr × Obj)} {σ : St} {H : Hp} {s : Shared} {p : Addr} {xs ys : List V} {its its' : List Value} {n n' : Nat} {f : Obj → Obj} (I : Inv X pins σ H s) (h : H p = some (.lst xs))
    (ho : s.heap.get? p = some { cls := .type "list", data := .seq its.toArray n }) (hf : f { cls := .type "list", data := .seq its.toArray n } = { cls := .type "list", data := .seq its'.toArray n' }) (r : Vals ys its') (hz : ys.length ≤ sizeLine) (t : Nat) :
    Inv X pins σ (upd H p (.lst ys)) { s with heap := s.heap.update p f, toks := t } := by
  have e : (s.heap.update p f).get? p = some { cls := .type "list", data := .seq its'.toArray n' } := by
    rw [Heap.get?_update_self f ho (by rw [hf] <;> rfl), hf]
  refine I.write (x := p) (e := p) (by rw [h]; trivial) (.inl rfl) (fun b u hb q => (Heap.get?_update_other _ _ (Ne.symm hb)).trans q) ⟨_, e⟩ ?_
  exact ⟨hz, its', n', r, e⟩
def rSetL : V → V → V → Hp → (Hp → Prop) → Prop := fun o i v H Q => ∃ p xs k j, o = .ref p ∧ i = .int k ∧ H p = some (.lst xs) ∧ ixN xs.length k = some j ∧ Q (upd H p (.lst (xs.set j v)))
theorem set_list : PSet X rSetL := by
  intro pins s σ H o i v ov iv u Q I ro ri rv h
  obtain ⟨p, xs, k, j, rfl, rfl, hp, hj, q⟩ := h
  cases ro
  obtain ⟨t, rfl⟩ := ri
  obtain ⟨its, n, r, ho, hz⟩ := I.lst hp
  obtain ⟨h1, h2, h3, h4⟩ := ixN_seq hj
  have hl := r.length
  have hn := line63
  have I' : Inv X pins σ (upd H p (.lst (xs.set j v))) { s with heap := s.heap.update p (Obj.mapSeq (·.setIfInBounds j u)) } :=
    I.lstUpd hp ho (mapSeq_set its n j u) (r.set rv j) (by rw [List.length_set]; exact hz) s.toks
  by_cases h0 : 0 ≤ k
  · have hk : k.toNat = j := by
      rw [seqIndex_of h0 h4] at h1
      exact Option.some.inj h1
    exact PySem.W.ki_setAt ho h0 (by omega) (by rw [List.size_toArray, ← hl]; exact h4) (by rw [hk]; exact ⟨_, I', q⟩)
  · have hk : (k + (its.toArray.size : Int)).toNat = j := by
      rw [seqIndex_neg (by omega) h3] at h1
      rw [List.size_toArray, ← hl]
      exact Option.some.inj h1
    exact PySem.W.ki_setBack ho (by omega) (by rw [List.size_toArray, ← hl]; exact h3) (by omega) (by rw [hk]; exact ⟨_, I', q⟩)
def flatV : V → Bool
  | .non => true
  | .bl _ => true
  | .int _ => true
  | .str _ => true
  | _ => false
def eqV : V → V → Bool
  | .non, .non => true
  | .bl a, .bl b => a == b
  | .bl a, .int b => (if a then 1 else 0) == b
  | .int a, .bl b => a == (if b then 1 else 0)
  | .int a, .int b => a == b
  | .str a, .str b => a == b
  | _, _ => false
theorem eqAt_V {A : Around} {s : Shared} {y x : V} {u v : Value} (ry : RelV y u) (rx : RelV x v) (fy : flatV y = true) (fx : flatV x = true) : SeqAt.EqAt A s u v (eqV y x) := by
  cases y with
  | non =>
    cases ry
    cases x with
    | non => cases rx; exact SeqAt.EqAt.same _
    | bl b => cases rx; exact SeqAt.EqAt.none_bool b
    | int b => obtain ⟨t, rfl⟩ := rx; exact SeqAt.EqAt.none_int b t
    | str b => obtain ⟨t, rfl⟩ := rx; exact SeqAt.EqAt.none_str b t
    | _ => exact absurd (show false = true from fx) Bool.false_ne_true
  | bl a =>
    cases ry
    cases x with
    | non => cases rx; exact SeqAt.EqAt.bool_none a
    | bl b => cases rx; exact SeqAt.EqAt.bool_bool a b
    | int b => obtain ⟨t, rfl⟩ := rx; exact SeqAt.EqAt.bool_int a b t
    | str b => obtain ⟨t, rfl⟩ := rx; exact SeqAt.EqAt.bool_str a b t
    | _ => exact absurd (show false = true from fx) Bool.false_ne_true
  | int a =>
    obtain ⟨t', rfl⟩ := ry
    cases x with
    | non => cases rx; exact SeqAt.EqAt.int_none a t'
    | bl b => cases rx; exact SeqAt.EqAt.int_bool a t' b
    | int b => obtain ⟨t, rfl⟩ := rx; exact SeqAt.EqAt.int_int a t' b t
    | str b => obtain ⟨t, rfl⟩ := rx; exact SeqAt.EqAt.int_str a t' b t
    | _ => exact absurd (show false = true from fx) Bool.false_ne_true
  | str a =>
    obtain ⟨t', rfl⟩ := ry
    cases x with
    | non => cases rx; exact SeqAt.EqAt.str_none a t'
    | bl b => cases rx; exact SeqAt.EqAt.str_bool a t' b
    | int b => obtain ⟨t, rfl⟩ := rx; exact SeqAt.EqAt.str_int a t' b t
    | str b => obtain ⟨t, rfl⟩ := rx; exact SeqAt.EqAt.str_str a t' b t
    | _ => exact absurd (show false = true from fx) Bool.false_ne_true
  | _ => exact absurd (show false = true from fy) Bool.false_ne_true
def eqU (x : V) (u : Value) : Bool := match u with
  | .none => eqV .non x
  | .bool b => eqV (.bl b) x
  | .int i _ => eqV (.int i) x
  | .str z _ => eqV (.str z) x
  | _ => false
theorem eqU_of {x y : V} {u : Value} (r : RelV y u) (f : flatV y = true) : eqU x u = eqV y x := by
  cases y with
  | non => cases r; rfl
  | bl b => cases r; rfl
  | int i => obtain ⟨t, rfl⟩ := r; rfl
  | str z => obtain ⟨t, rfl⟩ := r; rfl
  | _ => exact absurd (show false = true from f) Bool.false_ne_true
theorem any_eqU {x : V} : ∀ {xs : List V} {us : List Value}, Vals xs us → xs.all flatV = true → us.any (eqU x) = xs.any fun y => eqV y x
  | _, _, .nil, _ => rfl
  | y :: xs, u :: us, .cons r t, f => by
    rw [List.all_cons, Bool.and_eq_true] at f
    rw [List.any_cons, List.any_cons, eqU_of r f.1, any_eqU t f.2]
theorem mem_eqAt {A : Around} {s : Shared} {x : V} {v : Value} (rx : RelV x v) (fx : flatV x = true) : ∀ {xs : List V} {us : List Value}, Vals xs us → xs.all flatV = true → ∀ u ∈ us, SeqAt.EqAt A s u v (eqU x u)
  | _, _, .nil, _ => fun u hu => by cases hu
  | y :: xs, u :: us, .cons r t, f => fun u' hu => by
    rw [List.all_cons, Bool.and_eq_true] at f
    rcases List.mem_cons.mp hu with rfl | hu
    · rw [eqU_of r f.1]; exact eqAt_V r rx f.1 fx
    · exact mem_eqAt rx fx t f.2 u' hu
def inV (x : V) (xs : List V) : Bool := xs.any fun y => eqV y x
def rIn (K : PySem.W.Frag) (neg : Bool) : R2 := fun x y H Q => ∃ p xs, y = .ref p ∧ (SqL K H p xs ∨ SqT K H p xs) ∧ flatV x = true ∧ xs.all flatV = true ∧ Q (.bl (if neg then !inV x xs else inV x xs)) H
theorem op_in_seq : OpR X (compareOp .In) (rIn X.K false) := by
  intro pins s σ H x y v u Q I rx ry h
  obtain ⟨p, xs, rfl, hq, fx, fs, q⟩ := h
  cases ry
  rcases hq with hq | hq
  · obtain ⟨its, r, pl, hz⟩ := I.list hq
    refine SeqAt.in_listAt (eqU x) pl.isList (fun w hw => mem_eqAt rx fx r fs w (by simpa using hw)) ⟨.bl _, H, I, rfl, ?_⟩
    rw [show its.toArray.any (eqU x) = its.any (eqU x) by simp, any_eqU r fs]
    exact q
  · obtain ⟨its, r, pl, hz⟩ := I.tuple hq
    refine SeqAt.in_tupleAt (eqU x) pl (fun w hw => mem_eqAt rx fx r fs w (by simpa using hw)) ⟨.bl _, H, I, rfl, ?_⟩
    rw [show its.toArray.any (eqU x) = its.any (eqU x) by simp, any_eqU r fs]
    exact q
theorem op_notIn_seq : OpR X (compareOp .NotIn) (rIn X.K true) := by
  intro pins s σ H x y v u Q I rx ry h
  obtain ⟨p, xs, rfl, hq, fx, fs, q⟩ := h
  cases ry
  rcases hq with hq | hq
  · obtain ⟨its, r, pl, hz⟩ := I.list hq
    refine SeqAt.notIn_listAt (eqU x) pl.isList (fun w hw => mem_eqAt rx fx r fs w (by simpa using hw)) ⟨.bl _, H, I, rfl, ?_⟩
    rw [show its.toArray.any (eqU x) = its.any (eqU x) by simp, any_eqU r fs]
    exact q
  · obtain ⟨its, r, pl, hz⟩ := I.tuple hq
    refine SeqAt.notIn_tupleAt (eqU x) pl (fun w hw => mem_eqAt rx fx r fs w (by simpa using hw)) ⟨.bl _, H, I, rfl, ?_⟩
    rw [show its.toArray.any (eqU x) = its.any (eqU x) by simp, any_eqU r fs]
    exact q
theorem call_len_seq : CallR X (.builtin "len") (fun xs H Q => ∃ p ys, xs = [.ref p] ∧ (SqL X.K H p ys ∨ SqT X.K H p ys) ∧ Q (.int ys.length) H) := by
  intro pins s σ H xs us Q I r h
  obtain ⟨p, ys, rfl, hq, q⟩ := h
  obtain ⟨u, rfl, rx⟩ := vals1 r
  cases rx
  have hn := line63
  rcases hq with hq | hq
  · obtain ⟨its, r', pl, hz⟩ := I.list hq
    have hlen := r'.length
    exact Calls.call_len_list pl.isList (by simp only [List.size_toArray] <;> omega) ⟨.int ys.length, H, I.tok _, ⟨s.toks + 1, by rw [List.size_toArray, hlen]⟩, q⟩
  · obtain ⟨its, r', pl, hz⟩ := I.tuple hq
    have hlen := r'.length
    exact len_tuple pl (by simp only [List.size_toArray] <;> omega) ⟨.int ys.length, H, I.tok _, ⟨s.toks + 1, by rw [List.size_toArray, hlen]⟩, q⟩
def tyV (K : PySem.W.Frag) (T : String) (x : V) (H : Hp) : Prop := match x with
  | .str _ => T = "str"
  | .int _ => T = "int"
  | .ref p => (T = "list" ∧ ∃ xs, SqL K H p xs) ∨ (T = "tuple" ∧ ((∃ o, K.lookup p = some o ∧ o.cls = .type "tuple" ∧ o.dict = none) ∨ ∃ xs, H p = some (.tup xs))) ∨
      (T = "dict" ∧ ((∃ kvs, H p = some (.dK kvs)) ∨ ∃ kvs, H p = some (.dT kvs))) ∨ (T = "set" ∧ ∃ S n, H p = some (.set S n))
  | _ => False
theorem tyV_is {pins : List (Addr × Obj)} {σ : St} {H : Hp} {s : Shared} {T : String} {x : V} {v : Value} (I : Inv X pins σ H s) (r : RelV x v) (ty : tyV X.K T x H) :
    s.TypeIs v T ∧ ∀ a, v = .ref a → ∃ ob, s.heap.get? a = some ob ∧ ob.dict = none := by
  cases x with
  | str z =>
    obtain ⟨t, rfl⟩ := r
    cases (show T = "str" from ty)
    exact ⟨typeIs_str s z t, fun _ e => nomatch e⟩
  | int i =>
    obtain ⟨t, rfl⟩ := r
    cases (show T = "int" from ty)
    exact ⟨typeIs_int s i t, fun _ e => nomatch e⟩
  | ref p =>
    cases r
    rcases ty with ⟨rfl, xs, hq⟩ | ⟨rfl, ⟨o, hk, hc, hd⟩ | ⟨xs, hk⟩⟩ | ⟨rfl, hk⟩ | ⟨rfl, S, n, hk⟩
    · obtain ⟨its, _, pl, _⟩ := I.list hq
      refine ⟨pl.isList.typeIs, fun a e => ?_⟩
      cases e
      obtain ⟨o, n, e, c, hd, _⟩ := pl
      exact ⟨o, e, hd⟩
    · refine ⟨⟨o, I.kIn p o hk, hc⟩, fun a e => ?_⟩
      cases e
      exact ⟨o, I.kIn _ o hk, hd⟩
    · obtain ⟨nb, _, _, o, e, c, _⟩ := I.hok p _ hk
      exact ⟨⟨o, e, c⟩, fun a z => by cases z; exact ⟨o, e, nb.2 o e⟩⟩
    · have z : ∃ o, s.heap.get? p = some o ∧ o.ExactDict := by
        rcases hk with ⟨kvs, hk⟩ | ⟨kvs, hk⟩
        · obtain ⟨_, _, _, _, o, _, _, e, ex, _⟩ := I.hok p _ hk
          exact ⟨o, e, ex⟩
        · obtain ⟨_, _, _, _, o, _, _, e, ex, _⟩ := I.hok p _ hk
          exact ⟨o, e, ex⟩
      obtain ⟨o, e, ex⟩ := z
      refine ⟨⟨o, e, ex.1⟩, fun a e2 => ?_⟩
      cases e2
      exact ⟨o, e, ex.2.1⟩
    · obtain ⟨o, _, _, _, e, ex, _⟩ := I.hok p _ hk
      refine ⟨⟨o, e, ex.1⟩, fun a e2 => ?_⟩
      cases e2
      exact ⟨o, e, ex.2.1⟩
  | _ => exact False.elim ty
def tBM (K : PySem.W.Frag) (T : String) (r : V → List V → Hp → VK → Prop) (to : TE) (t : TA) : TE := fun σ H Q => to σ H fun x H1 => tyV K T x H1 ∧ t σ H1 fun xs H2 => r x xs H2 Q
variable {o e : Expr} {es : List Expr} {to : TE} {t : TA} {name : Str} {apos cpos : Pos} {T id : String} {r : V → List V → Hp → VK → Prop}
theorem pe_bm (pa : PlainAttrs T) (slot : Slot T name id) (hty : typeOf (.builtin id) = pure (.type "method_descriptor")) (hm : MtR X id r) (ho : PE X o to) (ha : PA X (e :: es) t)
    (hbase : attributeBase o name X.env (eval o X.env) = eval o X.env := by rfl)
    (hfew : ((backTo cpos (starEach (e :: es) X.env)).all (fun x => !x.1) && (backToKw cpos (keywordEach [] X.env)).all (fun x => x.1.isSome)
      && decide ((e :: es).length + ([] : List Keyword).length + (if ([] : List Keyword).isEmpty then 0 else 1) < 30)) = true := by rfl)
    (hline : (apos.endLine == cpos.line) = true := by rfl) (hs : starEach (e :: es) X.env = (false, eval e X.env) :: starEach es X.env := by rfl) (hplain : (backTo cpos (starEach es X.env)).any (·.1) = false := by rfl) :
    PE X (.Call (.Attribute o name apos) (e :: es) [] cpos) (tBM X.K T r to t) := by
  intro pins s σ H Q I h
  refine wpAny_Call_method_late hbase hfew hline rfl (thn (ho pins s σ H _ I h) fun v s1 ⟨x, H1, I1, r1, ty, q1⟩ => ?_)
  obtain ⟨h1, h2⟩ := tyV_is I1 r1 ty
  refine ⟨T, id, pa, slot, hty, h1, h2, ?_⟩
  have hA := ha cpos pins s1 σ H1 _ I1 q1
  rw [hs] at hA ⊢
  refine Calls.callWith_builtin (by show (false || (backTo cpos (starEach es X.env)).any (·.1)) = false; rw [hplain] <;> rfl) (Calls.evalArgs_plain ?_)
  exact thn hA fun us s2 ⟨vs, H2, I2, r2, q2⟩ => hm pins s2 σ H2 x vs v us Q I2 r1 r2 q2
/- xs.append(e), list.index on a module's tuple .. are MtR facts of 06m -/
end
end L2
namespace L2
open PySem PySem.Spec PyProof.Rows
def MtM (X : Cx) (id : String) (r : V → List V → Hp → VK → Prop) : Prop :=
  ∀ (pins : List (Addr × Obj)) (s : Shared) (σ : St) (H : Hp) (x : V) (xs : List V) (v : Value) (us : List Value) (Q : VK), Inv X pins σ H s → RelV x v → Vals xs us → r x xs H Q →
    wpAny (model X.prog X.w) X.A (call (.builtin id) (v :: us)) (EP X pins σ Q) X.xe s
theorem Vals.one : ∀ {x : V} {us : List Value}, Vals [x] us → ∃ u, us = [u] ∧ RelV x u
  | _, _, .cons r .nil => ⟨_, rfl, r⟩
section
variable {X : Cx} {pins : List (Addr × Obj)} {σ : St} {H : Hp} {s : Shared} {l b : Addr} {xs ys zs : List V}
theorem Inv.lset {its its' : List Value} {n : Nat} {f : Array Value → Array Value} {t' : Nat} (I : Inv X pins σ H s) (hH : H l = some (.lst xs))
    (e : s.heap.get? l = some { cls := .type "list", data := .seq its.toArray n }) (hf : f its.toArray = its'.toArray) (hv : Vals ys its') (hz : ys.length ≤ sizeLine) :
    Inv X pins σ (upd H l (.lst ys)) { s with heap := s.heap.update l (Obj.mapSeq f), toks := t' } := by
  have q := PySem.IsL.update e f
  rw [hf] at q
  refine I.write (x := l) (e := l) (by rw [hH]; exact trivial) (.inl rfl) (fun b' u hb hu => (Heap.get?_update_other s.heap (Obj.mapSeq f) (Ne.symm hb)).trans hu) ⟨_, q⟩ ?_
  exact ⟨hz, its', _, hv, q⟩
theorem Inv.lstM (I : Inv X pins σ H s) (hH : H l = some (.lst xs)) : xs.length ≤ sizeLine ∧ ∃ (its : List Value) (n : Nat), Vals xs its ∧ xs.length = its.length ∧ s.heap.get? l = some { cls := .type "list", data := .seq its.toArray n } := by
  obtain ⟨z, its, n, r, e⟩ := I.hok l _ hH
  exact ⟨z, its, n, r, r.length, e⟩
theorem notLongL {n : Nat} (h : n ≤ sizeLine) : Builtin.List.listTooLong n = false := by
  unfold Builtin.List.listTooLong
  exact decide_eq_false (by omega)
end
section
variable {X : Cx}
def rAppend : V → List V → Hp → VK → Prop := fun x vs H Q => ∃ l xs y, x = .ref l ∧ vs = [y] ∧ H l = some (.lst xs) ∧ xs.length < sizeLine ∧ Q .non (upd H l (.lst (xs ++ [y])))
theorem mt_append : MtM X "list.append" rAppend := by
  intro pins s σ H x vs v us Q I rx rv h
  obtain ⟨l, xs, y, rfl, rfl, hH, hz, q⟩ := h
  cases rx
  obtain ⟨u, rfl, ru⟩ := rv.one
  obtain ⟨z, its, n, r, hl, e⟩ := I.lstM hH
  refine call_meets F.slot_list_append ⟨_, e, rfl⟩ F.entry_list_append (F.args_list_append_2 _ _) (PySem.list_append l its.toArray n u (by rw [List.size_toArray]; omega)) ⟨e, ?_⟩
  refine ⟨.non, _, I.lset (its' := its ++ [u]) hH e (by simp) (r.append (.cons ru .nil)) ?_, rfl, q⟩
  rw [List.length_append, List.length_singleton]
  omega
end
section
variable {prog : Program} {w : World} {A : Around} {E : Value → Shared → Prop} {s : Shared}
set_option maxRecDepth 100000 in
end
section
variable {X : Cx}
end
end L2
namespace Att
open PySem PySem.W PySem.Calls PyProof.Rows
theorem ints_of_wellAll {P : Params} {h : Heap} : ∀ (ns : List Int) (vs : List Value), WellAll P h vs (ns.map WData.int) → IntsAre vs ns := by
  intro ns
  induction ns with
  | nil =>
    intro vs w
    rw [List.map_nil] at w
    cases w
    exact .nil
  | cons n ns ih =>
    intro vs w
    rw [List.map_cons] at w
    cases w with
    | cons a b =>
      cases a
      exact .cons _ _ (ih _ b)
theorem script_of {l : OpenLaw} {n : Nat} (hn : l.most = some n) {P : Params} {h : Heap} {args : List WData} {vals : List Value}
    (hpre : l.row.toRowW.claim.pre args = true) (hwl : WellAll P h vals args) :
    ∃ a vs ns, vals = [Value.ref a] ∧ args = [WData.list (ns.map WData.int)] ∧ h.get? a = some { cls := .type "list", data := .seq vs.toArray } ∧ IntsAre vs ns ∧ ns.length ≤ n := by
  have hsh : WShape.hasAll [] args [.list .int] = true := (pre_splitW hpre).1
  have hc : l.pre.holds [] { args := args } = true := (pre_splitW hpre).2
  obtain ⟨d, r, rfl, h1, h2⟩ := hasAllW_cons hsh
  obtain rfl := hasAllW_nil h2
  obtain ⟨xs, rfl, h3⟩ := hasW_list h1
  obtain ⟨ns, rfl⟩ := items_int h3
  have hlen : ns.length ≤ n := by
    unfold OpenLaw.pre at hc
    have h4 : (WTm.not (.lt (.lit (.int (n : Int))) (.len (.arg 0)))).holds [] { args := [.list (ns.map .int)] } = true := by
      have h4 := (holds_andW hc).1
      rw [hn] at h4
      exact h4
    have h5 := condW_of h4 (w_not (w_lt w_lit (w_len_list (w_arg rfl))))
    rw [List.length_map] at h5
    refine Nat.le_of_not_lt fun q => ?_
    have q' : (n : Int) < ((ns.length : Nat) : Int) := by omega
    first
      | (rw [decide_eq_true q'] at h5; exact absurd h5 (by decide))
      | (simp at h5; omega)
  cases hwl with
  | cons w1 w2 =>
    cases w2
    cases w1 with
    | list ho hall => exact ⟨_, _, ns, rfl, rfl, ho, ints_of_wellAll ns _ hall, hlen⟩
theorem post_true (l : OpenLaw) (args : List WData) : l.row.toRowW.claim.post args (.bool true) args = true :=
  postW_of (r := l.row.toRowW) (X := (true == true))
    (show WShape.has [] (.bool true) .bool = true by first | rfl | decide | simp [WShape.has, WShape.arms, WShape.armsAll])
    (show (WTm.eq .res (.lit (.bool true))).value [] { args := args, res := some (.bool true), after := args } = some (.bool (true == true)) from w_eq_bool (w_res rfl) w_lit) rfl
theorem attach_call {l : OpenLaw} {n : Nat} {q : Program} {loose : List Str} {XP : (Str → Option Value) → Heap → Prop} {YP : World → Heap → Prop} {d : DefRec}
    (hn : l.most = some n) (hdf : d.params.defaults = [])
    (call : ∀ (w : World) (s₀ s₁ : Shared) (mg mb : Str → Option Value) (fa : Addr) (o : Obj) (pm cd doc : Value) (a : Addr) (vs : List Value) (ns : List Int),
      Ground q loose [] XP w s₀ mg mb s₁.heap → YP w s₁.heap →
      s₁.heap.get? fa = some o → o.data = .func (docDef d.name d.params d.body d.scope pm cd doc) → s₁.heap.CodeRec cd d.name → mg d.name = some (.ref fa) →
      s₁.heap.get? a = some { cls := .type "list", data := .seq vs.toArray } → IntsAre vs ns → ns.length ≤ n → s₁.gens = #[] →
      codeAny (model l.prog w) callerA (.call (.ref fa) ⟨[.ref a], []⟩) (fun r s' => r = .ok (.ret (.bool true)) ∧ OldK s₁.heap s'.heap ∧ s'.os = s₁.os ∧ AllBare s'.gens) s₁) :
    WalkO q loose XP YP l.row.toRowW d [] (fun f vs => PySem.call f vs) := by
  intro w s₀ s₁ mg mb G Y fa o pm cd doc dV kV ho hd hcd hD hmg hg args vals as hpre hlay hrd hwl hlo
  obtain rfl : dV = .none := Dflts.none hD hdf
  obtain rfl : kV = .none := Dflts.noKw hD
  obtain ⟨a, vs, ns, rfl, rfl, hobj, hints, hlen⟩ := script_of hn hpre hwl
  refine enter_call (codeAny_mono (call w s₀ s₁ mg mb fa o pm cd doc a vs ns G Y ho (fd_plain hd) hcd hmg hobj hints hlen hg) fun r s' hq => ?_)
  obtain ⟨rfl, h2, h3, h4⟩ := hq
  exact ⟨.inl ⟨.bool true, .bool true, [], rfl, fun _ => rfl, .bool true, post_true l _, fun _ => ⟨List.Pairwise.nil, fun _ hm => (nomatch hm)⟩⟩, h2, h3, h4⟩
section
variable {prog : Program} {w : World} {A : Around} {E : Value → Shared → Prop} {s : Shared} {K : Frag}
def ledger (h : Heap) (L d : Addr) : List (Addr × Obj) := (List.range h.objs.size).filterMap fun a => if a = L ∨ a = d then none else (h.get? a).map fun o => (a, o)
end
end Att
namespace L2
open PySem PySem.Spec PyProof.Rows
theorem vals_ints : ∀ {vs : List Value} {ns : List Int}, IntsAre vs ns → Vals (ns.map V.int) vs
  | _, _, .nil => .nil
  | _, _, .cons n t h => .cons ⟨t, rfl⟩ (vals_ints h)
def Only (H : Hp) : Prop := ∀ b, H b = none ∨ ∃ o xs, H b = some (.frz o (.lst xs))
theorem law_call {P : Program} {w : World} {K : PySem.W.Frag} {mg mb : Str → Option Value} {CX : CXT} {k : Nat} {fa a : Addr} {fd : FuncData} {x : Str} {sp : Sp} {s₁ : Shared} {vs : List Value} {ns : List Int}
    (KX : K.In s₁.heap) (hns : s₁.heap.Ns mainGlobals mg) (hb : s₁.heap.Ns builtinsNs mb) (hbb : ∀ x : Str, x ≠ "__name__" → mb x = bootBuiltins x) (hlim : s₁.heap.NoLimit) (hg : s₁.gens = #[])
    (ha : s₁.heap.get? a = some { cls := .type "list", data := .seq vs.toArray }) (hi : IntsAre vs ns) (hl : ns.length ≤ sizeLine) (hr : Room k callerA)
    (F : ∀ base : Heap, K.In base → base.Ns mainGlobals mg → FnOk P w K mg base CX k fa fd [x] sp) (hbind : ∀ (s : Shared) (u : Value), BindsTo s fd ⟨[u], []⟩ [(x, u)])
    (hsp : ∀ H : Hp, Only H → SqL K H a (ns.map V.int) → sp [.ref a] H (fun v _ => v = .bl true) fun _ _ _ => False)
    (hCX : ∀ H e s', CX [] H s₁ (fun _ _ _ => False) e s' → False) :
    codeAny (model P w) callerA (.call (.ref fa) ⟨[.ref a], []⟩) (fun r s' => r = .ok (.ret (.bool true)) ∧ OldK s₁.heap s'.heap ∧ s'.os = s₁.os ∧ AllBare s'.gens) s₁ := by
  have rv := vals_ints hi
  have lenV := hi.length
  -- from an abstract heap in which nothing but the script may be tracked
  have core : ∀ H : Hp, Only H → SqL K H a (ns.map V.int) → HOk P w H s₁.heap → (∀ b, H b ≠ none → b = a) → (H a ≠ none → K.lookup a = none) →
      codeAny (model P w) callerA (.call (.ref fa) ⟨[.ref a], []⟩) (fun r s' => r = .ok (.ret (.bool true)) ∧ OldK s₁.heap s'.heap ∧ s'.os = s₁.os ∧ AllBare s'.gens) s₁ := by
    intro H hO hS hok hA hK
    have base_of : ∀ {b : Addr} {o : Obj}, s₁.heap.get? b = some o → H b = none → (hidT s₁.heap H).get? b = some o := fun e n => hidT_get e n
    have noA : ∀ {b : Addr} {o : Obj} {es : Array DictEntry} {ep : Nat}, s₁.heap.get? b = some o → o.data = .dict es ep → H b = none := fun {b o es ep} e d => by
      cases q : H b with
      | none => rfl
      | some u =>
        have e' : b = a := hA b (by rw [q]; simp)
        subst e'
        rw [ha] at e; cases e
        have d' : Data.seq vs.toArray _ = Data.dict es ep := d
        cases d'
    have nsK : ∀ {b : Addr} {m : Str → Option Value}, s₁.heap.Ns b m → (hidT s₁.heap H).Ns b m := fun {b m} ⟨o, es, ep, e, d, r⟩ => ⟨o, es, ep, base_of e (noA e d), d, r⟩
    have hKb : K.In (hidT s₁.heap H) := fun b o e => base_of (KX b o e) (by
      cases q : H b with
      | none => rfl
      | some u =>
        have e' : b = a := hA b (by rw [q]; simp)
        subst e'
        rw [hK (by rw [q]; simp)] at e; cases e)
    have hM : Mod K mg (hidT s₁.heap H) := ⟨hKb, nsK hns, ⟨mb, nsK hb, hbb⟩, let ⟨mc, h1, h2⟩ := hlim; ⟨mc, nsK h1, h2⟩⟩
    have e0 : Env0 P w K mg (hidT s₁.heap H) callerA [] s₁ H := ⟨rfl, hM, fun b o e => of_hidT e, Nat.le_of_eq (hidT_size _ _), trivial, fun b hb => absurd (show b ∈ ([] : List Addr) from hb) (by simp), hok, .of_eq hg⟩
    refine codeAny_mono ((F _ hKb (nsK hns)).run callerA [] s₁ H ⟨[.ref a], []⟩ [.ref a] [.ref a] _ _ hr e0 (hbind s₁ (.ref a)) (.cons rfl .nil) (hsp H hO hS)) fun r s' h => ?_
    cases r with
    | error e => exact (hCX H e s' h).elim
    | ok fl =>
      cases fl with
      | next => exact False.elim h
      | brk => exact False.elim h
      | cont => exact False.elim h
      | ret u =>
        obtain ⟨v, H', os, bare, un, hok', r', q⟩ := h
        have q' : v = .bl true := q
        subst q'
        obtain rfl : u = Value.bool true := r'
        refine ⟨rfl, OldK.of_keep fun b o e => ?_, os, bare⟩
        cases q : H b with
        | none => exact un.keep b o e q (by intro z; exact absurd (show b ∈ ([] : List Addr) from z) (by simp)) (by simp)
        | some u =>
          rcases hO b with z | ⟨ob, xs, z⟩
          · rw [q] at z; cases z
          · have z2 := un.frzs b ob _ z
            obtain ⟨e1, _⟩ := hok b _ z
            obtain ⟨e2, _⟩ := hok' b _ z2
            rw [e] at e1; cases e1
            exact e2
  cases hk : K.lookup a with
  | some o =>
    -- the script is one of the module's own objects
    have e := KX a o hk
    rw [ha] at e
    cases e
    refine core (fun _ => none) (fun _ => .inl rfl) (.inr ⟨_, vs.toArray, _, hk, rfl, rfl, rfl, by rw [List.size_toArray, lenV]; exact hl, by simpa using rv⟩) (fun b u z => by have z' : (none : Option HO) = some u := z; cases z') (fun b z => absurd rfl z) fun z => absurd rfl z
  | none =>
    refine core (fun b => if b = a then some (.frz { cls := .type "list", data := .seq vs.toArray } (.lst (ns.map V.int))) else none) (fun b => ?_) (.inl (.inr ⟨{ cls := .type "list", data := .seq vs.toArray }, if_pos rfl⟩)) (fun b u z => ?_) (fun b z => ?_) fun _ => hk
    · by_cases hb : b = a
      · exact .inr ⟨_, _, if_pos hb⟩
      · exact .inl (if_neg hb)
    · by_cases hb : b = a
      · have z' := (if_pos hb).symm.trans z
        cases z'
        subst hb
        exact ⟨ha, by rw [List.length_map]; exact hl, vs, _, rv, ha⟩
      · have z' := (if_neg hb).symm.trans z
        cases z'
    · by_cases hb : b = a
      · exact hb
      · exact absurd (if_neg hb) z
end L2
namespace L2
open PySem PySem.Spec PyProof.Rows
theorem walk_of {l : PySem.W.OpenLaw} {n k : Nat} {q : Program} {loose : List Str} {XP : (Str → Option Value) → Heap → Prop} {YP : World → Heap → Prop} {d : DefRec} {K : Params → PySem.W.Frag} {CX : World → CXT} {sp : World → Sp} {x : Str}
    (hn : l.most = some n) (hn2 : n ≤ sizeLine) (hdf : d.params.defaults = []) (hr : Room k callerA)
    (hY : ∀ (w : World) (h : Heap), YP w h → (K w.params).In h)
    (F : ∀ (w : World) (mg : Str → Option Value) (fa : Addr) (h : Heap), (K w.params).In h → h.Ns mainGlobals mg → mg d.name = some (.ref fa) →
      ∃ fd : FuncData, (∀ (s : Shared) (u : Value), BindsTo s fd ⟨[u], []⟩ [(x, u)]) ∧
        ∀ base : Heap, (K w.params).In base → base.Ns mainGlobals mg → FnOk l.prog w (K w.params) mg base (CX w) k fa fd [x] (sp w))
    (hsp : ∀ (w : World) (H : Hp) (a : Addr) (ns : List Int), ns.length ≤ n → Only H → SqL (K w.params) H a (ns.map V.int) → sp w [.ref a] H (fun v _ => v = .bl true) fun _ _ _ => False)
    (hCX : ∀ (w : World) (H : Hp) (s : Shared) (e : Value) (s' : Shared), CX w [] H s (fun _ _ _ => False) e s' → False) :
    PySem.W.WalkO q loose XP YP l.row.toRowW d [] (fun f vs => PySem.call f vs) := by
  refine Att.attach_call hn hdf fun w s₀ s₁ mg mb fa o pm cd doc a vs ns G Y ho hd hcd hmg hobj hints hlen hg => ?_
  have KX := hY w _ Y
  obtain ⟨fd, hb, hF⟩ := F w mg fa _ KX G.T.g hmg
  exact law_call KX G.T.g G.T.b G.T.builtins G.T.nolimit hg hobj hints (Nat.le_trans hlen hn2) hr hF hb (fun H hO hS => hsp w H a ns hlen hO hS) fun H e s' => hCX w H s₁ e s'
end L2
namespace L2
open PySem PySem.Spec PyProof.Rows
def inClass (s : Stmt) (j : Nat) : Stmt := match s with
  | .ClassDef _ _ _ body _ _ _ _ _ _ _ => body.getD j (.Pass ⟨0, 0, 0, 0⟩)
  | _ => .Pass ⟨0, 0, 0, 0⟩
def defArgs (s : Stmt) : Arguments := match s with
  | .FunctionDef _ a _ _ _ _ _ _ _ _ => a
  | _ => { posonlyargs := [], args := [], vararg := none, kwonlyargs := [], kw_defaults := [], kwarg := none, defaults := [] }
def defBody (s : Stmt) : List Stmt := match s with
  | .FunctionDef _ _ b _ _ _ _ _ _ _ => b
  | _ => []
def defScope (s : Stmt) : Scope := match s with
  | .FunctionDef _ _ _ _ _ _ sc _ _ _ => sc
  | _ => { kind := .function, names := [], isGenerator := false, isCoroutine := false }
abbrev CX0 : CXT := fun _ _ _ _ _ _ => False
abbrev E0 : XK := fun _ _ _ => False
theorem pass0 {X : Cx} : Passes CX0 X E0 := fun _ _ _ _ _ _ _ h => h.elim
structure Fun (K : PySem.W.Frag) (x qual : Str) (st : Stmt) (f : Addr) (fd : FuncData) : Prop where
  ex : ∃ (oc : Value) (od : Option Addr) (kV doc pm : Value) (an : Option Addr) (cdv ct : Value) (osl : Array (Option Value)),
    fd = PySem.W.fnOf x qual (defArgs st) (defBody st) (defScope st) .none kV doc pm an cdv ct ∧ K.lookup f = some ⟨oc, od, .func fd, osl⟩ ∧ PySem.W.codeIn K cdv qual = true
  kp : PySem.W.keepIn K (.ref f) = true
section
variable {P : Program} {w : World} {K : PySem.W.Frag} {mg : Str → Option Value} {base : Heap}
theorem Fun.ok {x qual : Str} {st : Stmt} {f : Addr} {fd : FuncData} {N ps : List Str} {k : Nat} {sp : Sp} (F : Fun K x qual st f fd) (S : FnScope N ps (defScope st)) (len : ∀ vs H Q E, sp vs H Q E → vs.length = ps.length)
    (hbody : ∀ (cdv : Value) (A : Around) (outer : List Env) (s : Shared) (H : Hp) (vs : List V) (Q : VK) (E : XK), Room k (A.deeper (envOfC qual (defScope st) s.heap.objs.size f cdv)) → sp vs H Q E →
      ∃ t, PSs (cxOf CX0 P w K mg base N qual (defScope st) f cdv A outer s H E).nox (defBody st) t ∧ t { nx := fun _ H' => Q .non H', rt := Q } (start N vs) H) : FnOk P w K mg base CX0 (k + 1) f fd ps sp := by
  obtain ⟨oc, od, kV, doc, pm, an, cdv, ct, osl, rfl, lk, hcd⟩ := F.ex
  refine fn_of lk hcd S len fun A outer s H vs Q E hr hsp => ?_
  obtain ⟨t, h, q⟩ := hbody cdv A outer s H vs Q E hr hsp
  exact ⟨t, h.nox, q⟩
theorem Fun.binds {x qual : Str} {st : Stmt} {f : Addr} {fd : FuncData} {ps : List Str} (F : Fun K x qual st f fd)
    (h : ∀ (kV doc pm : Value) (an : Option Addr) (cdv ct : Value) (us : List Value), us.length = ps.length → bindArgs (PySem.W.fnOf x qual (defArgs st) (defBody st) (defScope st) .none kV doc pm an cdv ct) ⟨us, []⟩ = pure (ps.zip us)) : Binds K fd ps [] := by
  obtain ⟨oc, od, kV, doc, pm, an, cdv, ct, osl, rfl, lk, hcd⟩ := F.ex
  exact .all (h kV doc pm an cdv ct)
theorem fun_mk {x qual : Str} {st : Stmt} {f : Addr} {oc : Value} {od an : Option Addr} {osl : Array (Option Value)} {kV doc pm cdv ct : Value} (l : K.lookup f = some ⟨oc, od, .func (PySem.W.fnOf x qual (defArgs st) (defBody st) (defScope st) .none kV doc pm an cdv ct), osl⟩)
    (c : PySem.W.codeIn K cdv qual = true) (k : PySem.W.keepIn K (.ref f) = true) : Fun K x qual st f (PySem.W.fnOf x qual (defArgs st) (defBody st) (defScope st) .none kV doc pm an cdv ct) := ⟨⟨oc, od, kV, doc, pm, an, cdv, ct, osl, rfl, l, c⟩, k⟩
end
section
variable {X : Cx}
theorem pv (i : Nat) {x : Str} {pos : Pos} (hN : X.N[i]? = some x := by rfl) (hv : Vis X.env.scope x := by first | exact Or.inl rfl | exact Or.inr (Or.inl rfl) | exact Or.inr (Or.inr rfl)) (hd : (x == ("__debug__" : Str)) = false := by decide)
    (hcd : (x == ("__classdict__" : Str)) = false := by decide) : PE X (.Name x pos) (tVar i) := pe_var hN hv hd hcd
end
def Same (H H' : Hp) : Prop := ∀ b o, H b = some o → H' b = some o
theorem Same.refl (H : Hp) : Same H H := fun _ _ h => h
theorem Same.trans {H H1 H2 : Hp} (a : Same H H1) (b : Same H1 H2) : Same H H2 := fun c o h => b c o (a c o h)
theorem Same.free {H H' : Hp} (e : Same H H') {l : Addr} (h : H' l = Option.none) : H l = Option.none := by
  cases q : H l with
  | none => rfl
  | some o =>
    rw [e l o q] at h
    cases h
theorem Same.seq {K : PySem.W.Frag} {H H' : Hp} {a : Addr} {xs : List V} (e : Same H H') (h : SqL K H a xs) : SqL K H' a xs := by
  rcases h with (h | ⟨o, h⟩) | h
  · exact .inl (.inl (e _ _ h))
  · exact .inl (.inr ⟨o, e _ _ h⟩)
  · exact .inr h
end L2
set_option Elab.async false
set_option linter.all false
set_option maxRecDepth 100000
set_option maxHeartbeats 4000000
namespace L2
open PySem PySem.Spec PyProof.Rows
theorem loop_comp {prog : Program} {w : World} {A : Around} {R : Result → Shared → Prop} {s : Shared} {elt target iter : Expr} {ifs : List Expr} {scope : Scope} {pos : Pos} {it acc : Value} {env : Env} (I : Nat → Shared → Prop)
    (turn : ∀ n s, I n s → wpAny (model prog w) A (pyNext it) (fun r s₁ => match r with
      | none => R (.ok .next) s₁
      | some v => wpAny (model prog w) A (letOwnedTupleGo target it v) (fun _ s₁' => wpAny (model prog w) A (assign target env v) (fun _ s₂ =>
          wpAny (model prog w) A (forIn ifs true fun c r => if r = true then do let ok ← isTrue c env (eval c env); pure (ForInStep.yield ok) else pure (ForInStep.yield r)) (fun ok s₃ =>
            if ok = true then wpAny (model prog w) A (eval elt env) (fun x s₄ =>
              wpAny (model prog w) A (call (.builtin "list.append") [acc, x]) (fun _ s₅ => ∃ m, m < n ∧ I m s₅) (fun _ _ => False) s₄) (fun _ _ => False) s₃
            else ∃ m, m < n ∧ I m s₃) (fun _ _ => False) s₂) (fun _ _ => False) s₁') (fun _ _ => False) s₁) (fun _ _ => False) s)
    (n : Nat) (h : I n s) :
    codeAny (model prog w) A (.compLoop (.ListComp elt [⟨target, iter, ifs, 0⟩] scope pos) 0 it acc env) R s := by
  refine codeAny_loop rfl I (fun n s hI => ?_) n h
  show wpAny _ A ((compTurn (.ListComp elt [⟨target, iter, ifs, 0⟩] scope pos) 0 it acc env).onRaise (fun x => do noteFrame x env; theTreesLotGoes x)) _ _ s
  refine wpAny_noted ?_
  rw [compTurn_list]
  refine wpAny_bind (wpAny_standAt (wpAny_bind (wpAny_mono (turn n s hI) (fun r s₁ h₁ => ?_) fun _ _ h' => h'.elim)))
  cases r with
  | none => exact wpAny_pure h₁
  | some v =>
    refine wpAny_bind (wpAny_mono h₁ (fun _ s₁' h₁' => ?_) fun _ _ h' => h'.elim)
    refine wpAny_bind (wpAny_mono h₁' (fun _ s₂ h₂ => wpAny_bind (wpAny_mono h₂ (fun ok s₃ h₃ => ?_) fun _ _ h' => h'.elim)) fun _ _ h' => h'.elim)
    cases ok with
    | false => exact wpAny_pure ⟨rfl, h₃⟩
    | true =>
      exact wpAny_bind (wpAny_bind (wpAny_mono h₃ (fun x s₄ h₄ => wpAny_bind (wpAny_mono h₄ (fun _ s₅ h₅ => wpAny_pure (wpAny_pure ⟨rfl, h₅⟩)) fun _ _ h' => h'.elim)) fun _ _ h' => h'.elim))
def clOf (names : List (Str × NameKind)) (env : Env) (cs : List (Str × Addr)) : List (Str × Addr) :=
  names.foldl (fun cs p => if p.2 = .free then (match env.cells.lookup p.1 with | some c => (p.1, c) :: cs | none => cs) else cs) cs
theorem closure_loop {env : Env} : ∀ (names : List (Str × NameKind)) (cs : List (Str × Addr)), (∀ y ∈ names, y.2 = .free → ∃ c, env.cells.lookup y.1 = some c) →
    (forIn names cs fun x r => (if (x.2 == NameKind.free) = true then do let a ← cellOf env x.1; pure (ForInStep.yield ((x.1, a) :: r)) else pure (ForInStep.yield r) : Sem _)) = pure (clOf names env cs)
  | [], cs, _ => by simp [clOf]
  | (n, k) :: r, cs, h => by
    have ih := fun cs => closure_loop r cs fun y hy => h y (List.mem_cons_of_mem _ hy)
    simp only [List.forIn_cons]
    by_cases hk : k = .free
    · subst hk
      obtain ⟨c, e⟩ := h (n, .free) List.mem_cons_self rfl
      have e' : env.cells.lookup n = some c := e
      have ec : cellOf env n = pure c := by unfold cellOf; rw [e']
      simp only [beq_self_eq_true, if_true, ec, pure_bind]
      rw [ih]
      simp [clOf, e']
    · have hb : (k == NameKind.free) = false := by simpa using hk
      simp only [hb, Bool.false_eq_true, if_false, pure_bind]
      rw [ih]
      simp [clOf, hk]
theorem closureFor_eq {scope : Scope} {env : Env} (h : ∀ y ∈ scope.names, y.2 = .free → ∃ c, env.cells.lookup y.1 = some c) : closureFor scope env = pure (clOf scope.names env []) := by
  unfold closureFor
  have := closure_loop scope.names [] h
  simp only [bind_pure]
  exact this
theorem clOf_mem {env : Env} : ∀ (names : List (Str × NameKind)) (cs : List (Str × Addr)) (x : Str) (c : Addr), (x, c) ∈ clOf names env cs → (x, c) ∈ cs ∨ env.cells.lookup x = some c
  | [], cs, x, c, h => .inl h
  | (n, k) :: r, cs, x, c, h => by
    have h' : (x, c) ∈ clOf r env (if k = .free then (match env.cells.lookup n with | some c => (n, c) :: cs | none => cs) else cs) := h
    rcases clOf_mem r _ x c h' with q | q
    · split at q
      · cases e : env.cells.lookup n with
        | none => rw [e] at q; exact .inl q
        | some d =>
          rw [e] at q
          rcases List.mem_cons.mp q with z | z
          · cases z; exact .inr e
          · exact .inl z
      · exact .inl q
    · exact .inr q
theorem clOf_keep {env : Env} : ∀ (names : List (Str × NameKind)) (cs : List (Str × Addr)) (x : Str), (∃ c, (x, c) ∈ cs) → ∃ c, (x, c) ∈ clOf names env cs
  | [], cs, x, h => h
  | (n, k) :: r, cs, x, ⟨c, h⟩ => by
    refine clOf_keep r _ x ?_
    dsimp only
    split
    · split
      · exact ⟨c, List.mem_cons_of_mem _ h⟩
      · exact ⟨c, h⟩
    · exact ⟨c, h⟩
theorem clOf_has {env : Env} : ∀ (names : List (Str × NameKind)) (cs : List (Str × Addr)) (x : Str), (x, NameKind.free) ∈ names → (∃ c, env.cells.lookup x = some c) → ∃ c, (x, c) ∈ clOf names env cs
  | [], _, _, h, _ => by simp at h
  | (n, k) :: r, cs, x, h, ⟨c, e⟩ => by
    rcases List.mem_cons.mp h with z | z
    · have e1 : x = n := congrArg Prod.fst z
      have e2 : NameKind.free = k := congrArg Prod.snd z
      subst e1 e2
      refine clOf_keep r _ x ⟨c, ?_⟩
      dsimp only
      rw [if_pos rfl, e]
      exact List.mem_cons_self
    · exact clOf_has r _ x z ⟨c, e⟩
theorem lookup_of_mem {β : Type} : ∀ (l : List (Str × β)) (x : Str) (c : β), (x, c) ∈ l → ∃ d, l.lookup x = some d
  | (n, d) :: r, x, c, h => by
    cases hx : x == n with
    | true => exact ⟨d, by simp [List.lookup_cons, hx]⟩
    | false =>
      simp only [List.lookup_cons, hx]
      rcases List.mem_cons.mp h with z | z
      · cases z; simp at hx
      · exact lookup_of_mem r x c z
theorem clOf_lookup {names : List (Str × NameKind)} {env : Env} {x : Str} {c : Addr} (h : (clOf names env []).lookup x = some c) : env.cells.lookup x = some c := by
  rcases clOf_mem names [] x c (PySem.mem_of_lookup h) with q | q
  · simp at q
  · exact q
theorem clOf_some {names : List (Str × NameKind)} {env : Env} {x : Str} {c : Addr} (h : (x, NameKind.free) ∈ names) (e : env.cells.lookup x = some c) : (clOf names env []).lookup x = some c := by
  obtain ⟨d, hd⟩ := clOf_has names [] x h ⟨c, e⟩
  obtain ⟨d', hd'⟩ := lookup_of_mem _ _ _ hd
  have := clOf_lookup hd'
  rw [e] at this
  cases this
  exact hd'
theorem lookup_relabel_free {env : Env} : ∀ {names : List (Str × NameKind)} {x : Str}, names.lookup x = some .free →
    (names.map fun (n, k) => if (k == NameKind.free && env.scope.kind == .function && env.kindOf n == some .cell) then (n, NameKind.cell) else (n, k)).lookup x = some .cell ∨
    (names.map fun (n, k) => if (k == NameKind.free && env.scope.kind == .function && env.kindOf n == some .cell) then (n, NameKind.cell) else (n, k)).lookup x = some .free
  | [], _, h => by simp at h
  | (n, k) :: r, x, h => by
    have ih := @lookup_relabel_free env r x
    show List.lookup x ((if (k == NameKind.free && env.scope.kind == .function && env.kindOf n == some .cell) = true then (n, NameKind.cell) else (n, k)) :: _) = _ ∨ List.lookup x ((if (k == NameKind.free && env.scope.kind == .function && env.kindOf n == some .cell) = true then (n, NameKind.cell) else (n, k)) :: _) = _
    by_cases hc : (k == NameKind.free && env.scope.kind == .function && env.kindOf n == some .cell) = true
    · rw [if_pos hc]
      cases hx : x == n with
      | true => left; simp [List.lookup_cons, hx]
      | false =>
        simp only [List.lookup_cons, hx] at h ⊢
        exact ih h
    · rw [if_neg hc]
      cases hx : x == n with
      | true =>
        simp only [List.lookup_cons, hx] at h
        cases h
        right; simp [List.lookup_cons, hx]
      | false =>
        simp only [List.lookup_cons, hx] at h ⊢
        exact ih h
structure CompScope (own : List Str) (caps : List Nat) (N : List Str) (sc scope : Scope) : Prop where
  kind : scope.kind = .function
  nocell : ∀ y ∈ scope.names, y.2 ≠ .cell
  loc : ∀ y ∈ scope.names, y.2 = .local → scope.names.lookup y.1 = some .local
  fr : ∀ y ∈ scope.names, y.2 = .free → sc.names.lookup y.1 = some .cell ∨ sc.names.lookup y.1 = some .free
  cap : ∀ i ∈ caps, i < N.length ∧ scope.names.lookup ((N[i]?).getD Str.empty) = some .free
def cxComp (X : Cx) (own : List Str) (caps : List Nat) (scope : Scope) (s : Shared) (H : Hp) (fp : List Addr) (C : Addr) : Cx :=
  { X with N := own ++ caps.map (fun i => (X.N[i]?).getD Str.empty), s₀ := s, H₀ := H, env := compEnvC scope (clOf scope.names X.env []) C X.env, outer := X.stack, ex := fp, fn := fun _ => false, pn := [], xe := fun _ _ => False }
def tau0 (n : Nat) (caps : List Nat) (σ : St) : St := List.replicate n none ++ caps.map fun i => (σ[i]?).join
section
variable {X : Cx} {pins : List (Addr × Obj)} {σ : St} {H : Hp} {s : Shared}
theorem free_of_kind {scope : Scope} {env : Env} (nc : ∀ y ∈ scope.names, y.2 ≠ .cell) {x : Str} {k : NameKind} (hk : k = .cell ∨ k = .free) (h : (relabel scope env).names.lookup x = some k) : (x, NameKind.free) ∈ scope.names := by
  have hm := PySem.mem_of_lookup h
  obtain ⟨⟨n, k0⟩, hy, e⟩ := List.mem_map.mp hm
  dsimp only at e
  split at e
  · rename_i hc
    simp only [Bool.and_eq_true, beq_iff_eq] at hc
    have e1 : n = x := congrArg Prod.fst e
    subst e1
    rw [hc.1.1] at hy
    exact hy
  · cases e
    rcases hk with z | z
    · subst z; exact absurd rfl (nc _ hy)
    · subst z; exact hy
theorem inv_comp {own : List Str} {caps : List Nat} {scope : Scope} {fp : List Addr} {D C : Addr} {o : Obj} {h1 : Heap} {tk : Nat} (I : Inv X pins σ H s) (S : CompScope own caps X.N X.env.scope scope)
    (f : ∀ b ∈ fp, FpOk X pins H b) (fl : ∀ b ∈ fp, b < s.heap.objs.size) (hD : s.heap.objs.size ≤ D) (hC : s.heap.objs.size ≤ C) (hDC : D ≠ C) (keep : ∀ b o, s.heap.get? b = some o → h1.get? b = some o)
    (hns : h1.Ns C fun _ => none) (hacc : h1.get? D = some o) (ho : ∀ v, o.data ≠ .cell v) :
    Inv (cxComp X own caps scope s H fp C) [(D, o)] (tau0 own.length caps σ) H { s with heap := h1, toks := tk } := by
  have sub : ∀ b ∈ frs X.stack, b < s.heap.objs.size := fun b hb => by
    rcases List.mem_cons.mp (I.stkSub b hb) with e | hb
    · rw [e]; exact I.lt
    · by_cases q : b < s.heap.objs.size
      · exact q
      · exact absurd hb (I.nofs (Nat.le_of_not_lt q))
  refine ⟨⟨I.ok.mod, S.kind, I.ok.glob, I.ok.blt, hC, fun x y c h1 h2 => I.ok.inj x y c (clOf_lookup h1) (clOf_lookup h2), fun x hx => ?_, fun x c z _ => absurd (show false = true from z) Bool.false_ne_true, I.ok.hd, I.ok.frames, .inl rfl,
      fun b hb => ⟨Nat.ne_of_lt (Nat.lt_of_lt_of_le (fl b hb) hC), fun x c e => (f b hb).2.2.2.2.1 x c (clOf_lookup e)⟩, I.bs, Nat.le_trans I.ok.bsz I.sz, fun b ob e hb => ?_, fun b hb hs => ?_, I.stack, I.stkFree⟩,
    rfl, I.bare, Un.kept keep, ⟨_, hns, fun i x v e1 e2 e3 => ?_⟩, fun x c e => ?_, I.hok.fresh hC, fun x c e => I.freeC x c (clOf_lookup e), fun p hp => ?_, I.hok.kept keep, ?_⟩
  · have hm : (x, NameKind.free) ∈ scope.names := by
      rcases hx with hx | hx
      · exact free_of_kind S.nocell (.inl rfl) hx
      · exact free_of_kind S.nocell (.inr rfl) hx
    obtain ⟨c, hc⟩ := I.ok.has x (S.fr _ hm rfl)
    exact ⟨c, clOf_some hm hc⟩
  · rcases (f b hb).2.2.2.1 with z | z
    · exact I.ok.noex b ob e z
    · exact absurd (Nat.lt_of_lt_of_le (Heap.lt_size e) (Nat.le_trans I.ok.bsz z)) (Nat.lt_irrefl _)
  · rcases List.mem_cons.mp (I.stkSub b hs) with e | e
    · exact (f b hb).2.1 e
    · exact (f b hb).2.2.1 e
  · have e2' : (List.replicate own.length (none : Option V) ++ caps.map fun i => (σ[i]?).join)[i]? = some (some v) := e2
    have e1' : (own ++ caps.map (fun i => (X.N[i]?).getD Str.empty))[i]? = some x := e1
    have hi : own.length ≤ i := by
      by_cases q : i < own.length
      · rw [List.getElem?_append_left (by simpa using q), List.getElem?_replicate, if_pos q] at e2'
        cases e2'
      · exact Nat.le_of_not_lt q
    rw [List.getElem?_append_right (by simpa using hi), List.length_replicate, List.getElem?_map] at e2'
    rw [List.getElem?_append_right hi, List.getElem?_map] at e1'
    cases ek : caps[i - own.length]? with
    | none => rw [ek] at e1'; cases e1'
    | some k =>
      rw [ek] at e1' e2'
      have ex : (X.N[k]?).getD Str.empty = x := Option.some.inj e1'
      have ev : (σ[k]?).join = some v := Option.some.inj e2'
      have ev' : σ[k]? = some (some v) := by
        cases q : σ[k]? with
        | none => rw [q] at ev; cases ev
        | some y => rw [q] at ev; exact congrArg some ev
      obtain ⟨hl, hf⟩ := S.cap k (List.mem_of_getElem? ek)
      have eN : X.N[k]? = some x := by
        rw [List.getElem?_eq_getElem hl] at ex ⊢
        exact congrArg some ex
      rw [ex] at hf
      have hm := PySem.mem_of_lookup hf
      have hfr := S.fr _ hm rfl
      obtain ⟨m, _, hl'⟩ := I.loc
      obtain ⟨u, ru, lk⟩ := hl' k x v eN ev' (.inr hfr)
      refine ⟨u, ru, .inr ⟨lookup_relabel_free hf, ?_⟩⟩
      rcases lk with ⟨kl, _⟩ | ⟨_, c, hc, ob, hob, hd⟩
      · have kl' : X.env.scope.names.lookup x = some .local := kl
        rcases hfr with z | z
        · have z' : X.env.scope.names.lookup x = some .cell := z
          rw [z'] at kl'; cases kl'
        · have z' : X.env.scope.names.lookup x = some .free := z
          rw [z'] at kl'; cases kl'
      · exact ⟨c, clOf_some hm hc, ob, keep c ob hob, hd⟩
  · obtain ⟨v, ob, hob, hd⟩ := I.cell x c (clOf_lookup e)
    exact ⟨v, ob, keep c ob hob, hd⟩
  · have e : p = (D, o) := by simpa using (show p ∈ [] ++ [(D, o)] from hp)
    subst e
    refine ⟨hacc, I.hok.fresh hD, hDC, fun z => ?_, ho⟩
    exact absurd (Nat.lt_of_lt_of_le (sub D z) hD) (Nat.lt_irrefl _)
  · show (tau0 own.length caps σ).length = (own ++ caps.map (fun i => (X.N[i]?).getD Str.empty)).length
    simp [tau0]
def PTs (X : Cx) (ifs : List Expr) (t : TT) : Prop :=
  ∀ (pins : List (Addr × Obj)) (s : Shared) (σ : St) (H : Hp) (Q : Bool → Hp → Prop), Inv X pins σ H s → t σ H Q →
    wpAny (model X.prog X.w) X.A (forIn ifs true fun c r => if r = true then do let ok ← isTrue c X.env (eval c X.env); pure (ForInStep.yield ok) else pure (ForInStep.yield r)) (TP X pins σ Q) X.xe s
def tYes : TT := fun _ H Q => Q true H
theorem pts_nil : PTs X [] tYes := fun _ s σ H Q I h => wpAny_tests_nil ⟨H, I, h⟩
def tComp (n : Nat) (caps : List Nat) (wi : TI) (g : TG) (tc : TT) (te : TE) : TE := fun σ H Q => wi σ H fun J H1 => ∃ W : Nat → Nat → St → List V → Hp → Prop, (∃ m, W 0 m (tau0 n caps σ) [] H1) ∧ ∀ i m τ acc H, W i m τ acc H →
  (J.stop i H ∧ acc.length ≤ sizeLine ∧ ∀ p, H p = none → Q (.ref p) (upd H p (.lst acc))) ∨
  (J.go i H ∧ acc.length < sizeLine ∧ ∀ x H', J.yld i H x H' → g x τ H' fun τ2 H2 => tc τ2 H2 fun b H3 => if b = true then te τ2 H3 fun y H4 => ∃ m', m' < m ∧ W (i + 1) m' τ2 (acc ++ [y]) H4 else ∃ m', m' < m ∧ W (i + 1) m' τ2 acc H3)
theorem HOk.track {P : Program} {w : World} {H : Hp} {h : Heap} {a : Addr} {o : HO} (x : HOk P w H h) (hn : H a = none) (new : ObjOk P w (upd H a o) h a o) : HOk P w (upd H a o) h := fun b u e => by
  by_cases hb : b = a
  · subst hb; rw [upd_same] at e; cases e; exact new
  · rw [upd_ne hb] at e
    exact (x b u e).stay (fun c v _ q => q) (fun c q => by rw [upd_ne (ne_of_none q hn)]; exact q) fun c xs q => by rw [upd_ne (ne_of_none q hn)]; exact q
theorem pe_comp {own : List Str} {caps : List Nat} {elt tg iter : Expr} {ifs : List Expr} {scope : Scope} {pos : Pos} {wi : TI} {g : TG} {tc : TT} {te : TE} (hc : X.calm = true) (S : CompScope own caps X.N X.env.scope scope) (hi : PI X tg iter wi)
    (hg : ∀ s H fp C, PG (cxComp X own caps scope s H fp C) tg g) (ht : ∀ s H fp C, PTs (cxComp X own caps scope s H fp C) ifs tc) (he : ∀ s H fp C, PE (cxComp X own caps scope s H fp C) elt te)
    (hs : ∀ x, foldedSetIterable iter X.env x = pure x := by intro _; rfl) : PE X (.ListComp elt [⟨tg, iter, ifs, 0⟩] scope pos) (tComp own.length caps wi g tc te) := by
  intro pins s σ H Q I h
  rw [eval_ListComp]
  refine wpAny_comprehension_free (use := none) (cl := clOf scope.names X.env []) rfl hs (closureFor_eq fun y hy e => I.ok.has y.1 (S.fr y hy e)) S.kind S.loc
    (wpAny_mono (hi pins s σ H _ I h) (fun v s1 h1 => thn h1 fun itv s2 h2 => ?_) fun _ _ e => e)
  obtain ⟨it, fp, tn, J, H2, e, I2, T, st2, f2, W, ⟨m0, w0⟩, turn⟩ := h2
  subst e
  refine wpAny_newObj_type (wpAny_newFunctionEnv S.nocell (by intro y hy; simp at hy) (fun h₁ hns₁ hsb₁ => ?_) S.kind)
  dsimp only at hns₁ hsb₁ ⊢
  generalize hH2 : s2.heap.push { cls := .type "list", dict := none, data := .seq ([] : List Value).toArray } = G at hns₁ hsb₁ ⊢
  have hG : G.objs.size = s2.heap.objs.size + 1 := by rw [← hH2, Heap.size_push]
  have hDC : s2.heap.objs.size ≠ G.objs.size := by rw [hG]; exact Nat.ne_of_lt (Nat.lt_succ_self _)
  have hCle : s2.heap.objs.size ≤ G.objs.size := by rw [hG]; exact Nat.le_succ _
  have below : ∀ b, b < s2.heap.objs.size → b ≠ G.objs.size := fun b hb => by rw [hG]; exact Nat.ne_of_lt (Nat.lt_succ_of_lt hb)
  have old : ∀ b o, s2.heap.get? b = some o → h₁.get? b = some o := fun b o e => hsb₁.extBut b o (below b (Heap.lt_size e)) (Heap.get?_push_of_some _ (hH2 ▸ Heap.get?_push_of_some _ e))
  have hacc : h₁.get? s2.heap.objs.size = some { cls := .type "list", dict := none, data := .seq ([] : List Value).toArray } := hsb₁.extBut _ _ hDC (Heap.get?_push_of_some _ (hH2 ▸ Heap.get?_push_size _ rfl))
  have fl : ∀ b ∈ fp, b < s2.heap.objs.size := fun b hb => let ⟨o, e, _⟩ := T.obj _ _ st2 b hb; Heap.lt_size e
  have hns₁' : h₁.Ns G.objs.size fun _ => none := hns₁
  have I4 := inv_comp (tk := s2.toks + ([] : List (Str × Value)).length) I2 S f2 fl (Nat.le_refl _) hCle hDC old hns₁' hacc (fun v z => nomatch z)
  have st4 : tn 0 h₁ := T.keep _ _ _ st2 fun b _ o e => old b o e
  generalize hs4 : ({ s2 with heap := h₁, toks := s2.toks + ([] : List (Str × Value)).length } : Shared) = s4 at I4 ⊢
  have e4 : s4.heap = h₁ := by rw [← hs4]
  rw [← e4] at st4
  -- the loop
  have loop : codeAny (model X.prog X.w) X.A (.compLoop (.ListComp elt [⟨tg, iter, ifs, 0⟩] scope pos) 0 (.ref it) (.ref s2.heap.objs.size) (compEnvC scope (clOf scope.names X.env []) G.objs.size X.env))
      (compPost (model X.prog X.w) X.A X.xe none (EP X pins σ Q) (.ref s2.heap.objs.size) G.objs.size) s4 := by
    let Y := cxComp X own caps scope s2 H2 fp G.objs.size
    have stat : ∀ {H' : Hp} {its : List Value} {n : Nat}, (∀ b ∈ fp, H' b = none) → ∀ b ∈ fp, FpOk Y [(s2.heap.objs.size, ({ cls := .type "list", data := .seq its.toArray n } : Obj))] H' b := fun {H' its n} hn b hb => by
      refine ⟨hn b hb, below b (fl b hb), fun z => ?_, .inl hb, fun x c e => (f2 b hb).2.2.2.2.1 x c (clOf_lookup e), fun p hp => ?_⟩
      · rcases List.mem_cons.mp (I2.stkSub b z) with e | e
        · exact (f2 b hb).2.1 e
        · exact (f2 b hb).2.2.1 e
      · have e : p = (s2.heap.objs.size, ({ cls := .type "list", data := .seq its.toArray n } : Obj)) := by simpa using (show p ∈ [] ++ [_] from hp)
        subst e
        exact Nat.ne_of_gt (fl b hb)
    refine loop_comp (fun n s' => ∃ i τ acc its k H', Inv Y [(s2.heap.objs.size, ({ cls := .type "list", data := .seq its.toArray k } : Obj))] τ H' s' ∧ tn i s'.heap ∧ (∀ b ∈ fp, H' b = none) ∧ Vals acc its ∧ W i n τ acc H') ?_ m0
      ⟨0, _, [], [], 0, H2, I4, st4, fun b hb => (f2 b hb).1, .nil, w0⟩
    rintro n s5 ⟨i, τ, acc, its, k, H5, I5, st5, fr5, rv5, w5⟩
    rcases turn i n τ acc H5 w5 with ⟨stop, hz, q⟩ | ⟨go, hz, step⟩
    · refine thn (T.done Y rfl rfl rfl hc i _ s5 τ H5 (fun _ _ => False) I5 (stat fr5) st5 stop) fun r s6 ⟨hr, I6⟩ => ?_
      subst hr
      obtain ⟨eD, nD, _, _, _⟩ := I6.pin _ (List.mem_append_right _ (List.mem_singleton.mpr rfl))
      obtain ⟨m6, hm6, _⟩ := I6.loc
      refine ⟨m6, hm6, fun h' hsb => ?_⟩
      have hC6 : H5 G.objs.size = none := I6.free
      have eD' : h'.get? s2.heap.objs.size = some { cls := .type "list", data := .seq its.toArray k } := hsb.extBut _ _ hDC eD
      have hok6 : HOk X.prog X.w H5 h' := fun b u e => (I6.hok b u e).stay (fun c v hcv qv => hsb.extBut c v (by
          rcases hcv with z | z
          · subst z; exact ne_of_none e hC6
          · exact ne_of_none z hC6) qv) (fun _ q => q) fun _ _ q => q
      refine ⟨.ref s2.heap.objs.size, _, ?_, rfl, q _ nD⟩
      have ub := I6.base
      refine I2.call' (ch := fp) (s' := { s6 with heap := h' }) I6.os ⟨fun b o e n' hb hx => hsb.extBut b o (below b (Heap.lt_size e)) (ub.keep b o e n' hb hx), fun b o e n' hb hx => ?_, fun b o e n' hx => ?_, fun b o e hx => ?_, fun b xs e => ?_, fun b o u e => ?_, fun b ps e => ?_⟩
        (hok6.track nD ⟨hz, its, k, rv5, eD'⟩) I6.bare fun b hb => ⟨(f2 b hb).2.2.2.1, (f2 b hb).2.1, (f2 b hb).2.2.2.2.1, (f2 b hb).2.2.2.2.2⟩
      · obtain ⟨sl, e'⟩ := ub.slot b o e n' hb hx
        exact ⟨sl, hsb.extBut b _ (below b (Heap.lt_size e)) e'⟩
      · rw [upd_ne (Nat.ne_of_lt (Heap.lt_size e))]
        exact ub.free b o e n' hx
      · obtain ⟨o', e'⟩ := ub.there b o e hx
        exact ⟨o', hsb.extBut b _ (below b (Heap.lt_size e)) e'⟩
      · have z := ub.tups b xs e
        rw [upd_ne (ne_of_none z nD)]; exact z
      · have z := ub.frzs b o u e
        rw [upd_ne (ne_of_none z nD)]; exact z
      · obtain ⟨more, z⟩ := ub.tbls b ps e
        exact ⟨more, by rw [upd_ne (ne_of_none z nD)]; exact z⟩
    · refine thn (T.item Y rfl rfl rfl hc i _ s5 τ H5 (fun _ _ => False) I5 (stat fr5) st5 go) fun r s6 ⟨u, hr, h6⟩ => ?_
      subst hr
      refine thn h6 fun _ s7 ⟨x, H7, I7, r7, y7, st7, fr7⟩ => ?_
      have I7' := I7.pinned (stat fr7) (T.obj _ _ st7)
      refine thn (hg s2 H2 fp G.objs.size _ s7 τ H7 x u _ I7' r7 (step x H7 y7)) fun _ s8 ⟨τ8, H8, I8, q8⟩ => ?_
      refine thn (ht s2 H2 fp G.objs.size _ s8 τ8 H8 _ I8 q8) fun ok s9 ⟨H9, I9, q9⟩ => ?_
      -- the iterator's state behind the turn
      have back : ∀ {s' : Shared} {τ' : St} {H' : Hp}, Inv Y ([(s2.heap.objs.size, ({ cls := .type "list", data := .seq its.toArray k } : Obj))] ++ pinsAt fp s7.heap) τ' H' s' → (tn (i + 1) s'.heap ∧ ∀ b ∈ fp, H' b = none) := fun {s' τ' H'} Ib =>
        ⟨T.keep _ _ _ st7 fun b hb o e => (Ib.pin (b, o) (List.mem_append_right _ (List.mem_append_right _ (mem_pinsAt hb e)))).1, fun b hb => by
          obtain ⟨o, e, d⟩ := T.obj _ _ st7 b hb
          exact (Ib.pin (b, o) (List.mem_append_right _ (List.mem_append_right _ (mem_pinsAt hb e)))).2.1⟩
      cases ok with
      | false =>
        obtain ⟨m', hm', w'⟩ := q9
        obtain ⟨sb, fb⟩ := back I9
        exact ⟨m', hm', i + 1, τ8, acc, its, k, H9, I9.unpinned, sb, fb, rv5, w'⟩
      | true =>
        refine thn (he s2 H2 fp G.objs.size _ s9 τ8 H9 _ I9 q9) fun y s10 ⟨yv, H10, I10, r10, q10⟩ => ?_
        obtain ⟨m', hm', w'⟩ := q10
        obtain ⟨sb, fb⟩ := back I10
        obtain ⟨eD, nD, neD, nfD, _⟩ := I10.pin (s2.heap.objs.size, _) (List.mem_append_right _ (List.mem_append_left _ (List.mem_singleton.mpr rfl)))
        have hl : acc.length = its.length := rv5.length
        refine call_meets F.slot_list_append ⟨_, eD, rfl⟩ F.entry_list_append (F.args_list_append_2 _ _) (PySem.list_append s2.heap.objs.size its.toArray k y (by rw [List.size_toArray]; omega)) ⟨eD, ?_⟩
        have q := PySem.IsL.update eD (fun a : Array Value => a.push y)
        have Iu : Inv Y [] τ8 H10 s10 := I10.pins_of fun p hp => nomatch hp
        have It := Iu.turned (t' := s10.toks) (it := s2.heap.objs.size) (h' := s10.heap.update s2.heap.objs.size (Obj.mapSeq (fun a : Array Value => a.push y))) (fun b o hb e => (Heap.get?_update_other s10.heap _ (Ne.symm hb)).trans e) nD neD (.inr (Nat.le_refl _))
          (fun x c e z => by
            obtain ⟨v, ob, hob, _⟩ := I2.cell x c (clOf_lookup e)
            exact absurd (Heap.lt_size hob) (by rw [z]; exact Nat.lt_irrefl _)) (fun p hp => nomatch hp)
        have It' := It.pins_of (pins' := [(s2.heap.objs.size, ({ cls := .type "list", data := .seq (its ++ [y]).toArray (k + 1) } : Obj))]) fun p hp => by
          have e : p = _ := List.mem_singleton.mp hp
          subst e
          exact ⟨by simpa using q, nD, neD, nfD, fun v z => nomatch z⟩
        refine ⟨m', hm', i + 1, τ8, acc ++ [yv], its ++ [y], _, H10, It', T.keep _ _ _ sb fun b hb o e => (Heap.get?_update_other s10.heap _ (Nat.ne_of_gt (fl b hb))).trans e, fb, rv5.append (.cons r10 .nil), w'⟩
  exact codeAny_compStart_list loop (T.self _ 0 s4 _ _ st4 loop)
end
end L2
set_option Elab.async false
set_option linter.all false
set_option maxRecDepth 100000
set_option maxHeartbeats 4000000
namespace L2
open PySem PySem.Spec PyProof.Rows
def tyS (H : Hp) : V → Option String
  | .non => some "NoneType"
  | .bl _ => some "bool"
  | .int _ => some "int"
  | .str _ => some "str"
  | .ref a => match H a with
    | some (.lst _) => some "list"
    | some (.frz _ (.lst _)) => some "list"
    | some (.tup _) => some "tuple"
    | some (.dK _) => some "dict"
    | _ => none
  | _ => none
theorem tyS_of {K : PySem.W.Frag} {H : Hp} {x : V} {t : String} (h : tyS H x = some t) : TyOf K H x (.type t) := by
  cases x with
  | non => cases h; exact .non
  | bl b => cases h; exact .bl b
  | int i => cases h; exact .int i
  | str x => cases h; exact .str x
  | ref a =>
    unfold tyS at h
    dsimp only at h
    split at h
    · rename_i e; cases h; exact .lst e
    · rename_i e; cases h; exact .frz e
    · rename_i e; cases h; exact .tup e
    · rename_i e; cases h; exact .dK e
    · cases h
  | _ => cases h
theorem tyS_six {H : Hp} {x : V} {t : String} (h : tyS H x = some t) : t = "NoneType" ∨ t = "bool" ∨ t = "int" ∨ t = "str" ∨ t = "list" ∨ t = "tuple" ∨ t = "dict" := by
  cases x with
  | ref a =>
    unfold tyS at h
    dsimp only at h
    split at h <;> cases h <;> simp
  | _ => cases h <;> simp
def isSub (t T : String) : Bool := t == T || (t == "bool" && T == "int")
theorem kit_of {K : PySem.W.Frag} {t T : String} (h : t = "NoneType" ∨ t = "bool" ∨ t = "int" ∨ t = "str" ∨ t = "list" ∨ t = "tuple" ∨ t = "dict") (hT : T = "int" ∨ T = "bool" ∨ T = "list" ∨ T = "tuple") : PySem.W.kitOne K (.type t) (.type T) = some (isSub t T) := by
  rcases h with rfl | rfl | rfl | rfl | rfl | rfl | rfl <;> rcases hT with rfl | rfl | rfl | rfl <;> first | rfl | decide +kernel
section
variable {X : Cx}
theorem call_isinst : CallR X (.builtin "isinstance") (fun xs H Q => ∃ x t T, xs = [x, .ty T] ∧ tyS H x = some t ∧ (T = "int" ∨ T = "bool" ∨ T = "list" ∨ T = "tuple") ∧ Q (.bl (isSub t T)) H) := by
  intro pins s σ H xs us Q I r h
  obtain ⟨x, t, T, rfl, ht, hT, q⟩ := h
  obtain ⟨u, w', rfl, r1, r2⟩ := vals2 r
  cases r2
  exact isinst_ok I r1 (tyS_of ht) (kit_of (tyS_six ht) hT) fun tk => ⟨.bl _, H, I.tok tk, rfl, q⟩
theorem op_fdivB : OpR X (binaryOp .FloorDiv) (rI (fun _ j => 0 < j ∧ j < 2 ^ 200) fun i j => .int (i / j)) := opI fun i j _ _ _ _ _ hc q => by
  have e : i.fdiv j = i / j := Int.fdiv_eq_ediv_of_nonneg _ (by omega)
  rw [← e] at q
  refine floordiv_int (by omega) q (.inl (PyProof.noPylong_of_log2 ?_))
  have h0 : j.natAbs ≠ 0 := by omega
  have h1 : j.natAbs < 2 ^ 200 := by omega
  have := (Nat.log2_lt h0).mpr h1
  omega
variable {K : PySem.W.Frag}
theorem pg_tup' {es : List Expr} {k : Nat} {t : TGs} {n : Nat} {pos : Pos} (hK : X.K = K) (hc : X.calm = true) (h : PGs X es t)
    (hn : (assignEach es X.env).length = n := by rfl) (hst : (assignEach es X.env).findIdx? (·.1) = none := by rfl) : PG X (.Tuple es k pos) (gTup K n t) := by subst hK; exact pg_tup hc h hn hst
theorem pi_list' {tg l : Expr} {tl : TE} (hK : X.K = K) (hl : PE X l tl) : PI X tg l (iList K tl) := by subst hK; exact pi_list hl
theorem ix_list' (hK : X.K = K) : IxR X (rIxL K) := by subst hK; exact ix_list
theorem ix_tup' (hK : X.K = K) : IxR X (rIxT K) := by subst hK; exact ix_tup
theorem op_in_seq' (hK : X.K = K) : OpR X (compareOp .In) (rIn K false) := by subst hK; exact op_in_seq
theorem call_len_seq' (hK : X.K = K) : CallR X (.builtin "len") (fun xs H Q => ∃ p ys, xs = [.ref p] ∧ (SqL K H p ys ∨ SqT K H p ys) ∧ Q (.int ys.length) H) := by subst hK; exact call_len_seq
end
end L2
namespace L2
open PySem PySem.Spec PyProof.Rows
theorem get_list {X : Cx} {K : PySem.W.Frag} (hK : X.K = K) : PGet X (fun o i H Q => ∃ p xs v, ∃ k : Nat, o = .ref p ∧ i = .int k ∧ SqL K H p xs ∧ xs[k]? = some v ∧ Q v H) := by
  subst hK
  intro pins s σ H o i ov iv Q I ro ri h
  obtain ⟨p, xs, v, k, rfl, rfl, hq, hv, q⟩ := h
  cases ro
  obtain ⟨t, rfl⟩ := ri
  obtain ⟨its, r, pl, hz⟩ := I.list hq
  obtain ⟨w, ew, rw'⟩ := r.get hv
  have hk : k < xs.length := (List.getElem?_eq_some_iff.mp hv).1
  have hn := line63
  exact wpAny_getItem_list pl.isList (by omega) (by omega) (by simpa using ew) ⟨v, H, I, rw', q⟩
end L2
set_option Elab.async false
set_option linter.all false
set_option maxRecDepth 100000
set_option maxHeartbeats 4000000
namespace SmSort
open PySem PySem.W PyProof.Rows
section
variable {n : Nat} {f : Nat → Int}
def at' (p : Array Nat) (i : Nat) : Nat := (p[i]?).getD 0
def g (f : Nat → Int) (p : Array Nat) (i : Nat) : Int := f (at' p i)
end
end SmSort
set_option Elab.async false
set_option linter.all false
set_option maxRecDepth 100000
set_option maxHeartbeats 4000000
namespace L2
open PySem PySem.Spec PyProof.Rows
def notStar : Expr → Bool
  | .Starred _ _ => false
  | _ => true
theorem star_cons {e : Expr} {es : List Expr} {env : Env} (h : notStar e = true) : starEach (e :: es) env = (false, eval e env) :: starEach es env := by
  cases e <;> first | rfl | cases h
@[irreducible] def PA2 (X : Cx) (es : List Expr) (t : TA) : Prop := PA X es t
theorem pa_out {X : Cx} {es : List Expr} {t : TA} (h : PA2 X es t) : PA X es t := by unfold PA2 at h; exact h
theorem pa_in {X : Cx} {es : List Expr} {t : TA} (h : PA X es t) : PA2 X es t := by unfold PA2; exact h
theorem pa_n {X : Cx} : PA2 X [] tNil := pa_in pa_nil
theorem pa_c {X : Cx} {e : Expr} {es : List Expr} {te : TE} {t : TA} (ha : PE X e te) (hr : PA2 X es t) (hn : notStar e = true) : PA2 X (e :: es) (tCons te t) := pa_in (pa_cons ha (pa_out hr) (star_cons hn))
@[irreducible] def PSs2 (X : Cx) (es : List Stmt) (t : TS) : Prop := PSs X es t
theorem bl_out {X : Cx} {es : List Stmt} {t : TS} (h : PSs2 X es t) : PSs X es t := by unfold PSs2 at h; exact h
theorem bl_in {X : Cx} {es : List Stmt} {t : TS} (h : PSs X es t) : PSs2 X es t := by unfold PSs2; exact h
theorem bl_1 {X : Cx} {a : Stmt} {t : TS} (h : PS X a t) : PSs2 X [a] t := bl_in (pss_one h)
theorem bl_c {X : Cx} {a b : Stmt} {rest : List Stmt} {t u : TS} (h : PS X a t) (hr : PSs2 X (b :: rest) u) : PSs2 X (a :: b :: rest) (tSeq t u) := bl_in (pss_cons h (bl_out hr))
end L2
namespace L2
open PySem PySem.Spec PyProof.Rows
section
variable {K : PySem.W.Frag} {a : Addr} {xs : List V} {n : Nat} {caps : List Nat} {g : TG} {tc : TT} {te : TE} {σ : St} {H : Hp} {Qf : Addr → Hp → List V → Prop}
theorem comp_of {J : It} (Pv : Nat → St → List V → Hp → Prop) (len : Nat) (h0 : Pv 0 (tau0 n caps σ) [] H) (hn : len ≤ 1000) (hl : ∀ i τ acc H, Pv i τ acc H → acc.length ≤ i)
    (hgo : ∀ i τ acc H, i < len → Pv i τ acc H → J.go i H) (hstop : ∀ τ acc H, Pv len τ acc H → J.stop len H)
    (hs : ∀ i τ acc H (C : St → List V → Hp → Prop), i < len → Pv i τ acc H → (∀ τ acc H, Pv (i + 1) τ acc H → C τ acc H) → ∀ x H', J.yld i H x H' → g x τ H' fun τ2 H2 => tc τ2 H2 fun b H3 => if b = true then te τ2 H3 fun y H4 => C τ2 (acc ++ [y]) H4 else C τ2 acc H3)
    (hd : ∀ τ acc H, Pv len τ acc H → ∀ p, H p = none → Qf p H acc) :
    ∃ W : Nat → Nat → St → List V → Hp → Prop, (∃ m, W 0 m (tau0 n caps σ) [] H) ∧ ∀ i m τ acc H, W i m τ acc H →
      (J.stop i H ∧ acc.length ≤ sizeLine ∧ ∀ p, H p = none → Qf p H acc) ∨
      (J.go i H ∧ acc.length < sizeLine ∧ ∀ x H', J.yld i H x H' → g x τ H' fun τ2 H2 => tc τ2 H2 fun b H3 => if b = true then te τ2 H3 fun y H4 => ∃ m', m' < m ∧ W (i + 1) m' τ2 (acc ++ [y]) H4 else ∃ m', m' < m ∧ W (i + 1) m' τ2 acc H3) := by
  have line : 1001 ≤ sizeLine := by rw [sizeLine_eq]; decide
  refine ⟨fun i m τ acc H => m = len - i ∧ i ≤ len ∧ Pv i τ acc H, ⟨len, by simp, Nat.zero_le _, h0⟩, ?_⟩
  rintro i m τ acc H ⟨rfl, hi, p⟩
  have q := hl i τ acc H p
  by_cases hlt : i < len
  · exact .inr ⟨hgo i τ acc H hlt p, by omega, fun x H' y => hs i τ acc H (fun τ acc H => ∃ m', m' < len - i ∧ m' = len - (i + 1) ∧ i + 1 ≤ len ∧ Pv (i + 1) τ acc H) hlt p (fun τ acc H p' => ⟨len - (i + 1), by omega, rfl, hlt, p'⟩) x H' y⟩
  · have e : i = len := by omega
    subst e
    exact .inl ⟨hstop τ acc H p, by omega, hd τ acc H p⟩
theorem comp_list (Pv : Nat → St → List V → Hp → Prop) (h0 : Pv 0 (tau0 n caps σ) [] H) (hn : xs.length ≤ 1000) (hl : ∀ i τ acc H, Pv i τ acc H → acc.length ≤ i ∧ SqL K H a xs)
    (hs : ∀ i x τ acc H (C : St → List V → Hp → Prop), xs[i]? = some x → Pv i τ acc H → (∀ τ acc H, Pv (i + 1) τ acc H → C τ acc H) → g x τ H fun τ2 H2 => tc τ2 H2 fun b H3 => if b = true then te τ2 H3 fun y H4 => C τ2 (acc ++ [y]) H4 else C τ2 acc H3)
    (hd : ∀ τ acc H, Pv xs.length τ acc H → ∀ p, H p = none → Qf p H acc) :
    ∃ W : Nat → Nat → St → List V → Hp → Prop, (∃ m, W 0 m (tau0 n caps σ) [] H) ∧ ∀ i m τ acc H, W i m τ acc H →
      ((Itl K a).stop i H ∧ acc.length ≤ sizeLine ∧ ∀ p, H p = none → Qf p H acc) ∨
      ((Itl K a).go i H ∧ acc.length < sizeLine ∧ ∀ x H', (Itl K a).yld i H x H' → g x τ H' fun τ2 H2 => tc τ2 H2 fun b H3 => if b = true then te τ2 H3 fun y H4 => ∃ m', m' < m ∧ W (i + 1) m' τ2 (acc ++ [y]) H4 else ∃ m', m' < m ∧ W (i + 1) m' τ2 acc H3) :=
  comp_of (J := Itl K a) Pv xs.length h0 hn (fun i τ acc H p => (hl i τ acc H p).1) (fun i τ acc H hi p => ⟨xs, xs[i], (hl i τ acc H p).2, by simp [hi]⟩) (fun τ acc H p => ⟨xs, (hl _ τ acc H p).2, Nat.le_refl _⟩)
    (fun i τ acc H C hi p c x H' y => by obtain ⟨e, y⟩ := y; subst e; exact hs i x τ acc _ C (y xs (hl i τ acc _ p).2) p c) hd
end
end L2
namespace Sm
open PySem L2 SmSort
def But (p : Addr) (H H' : Hp) : Prop := ∀ b u, b ≠ p → H b = some u → H' b = some u
theorem But.trans {p : Addr} {H H1 H2 : Hp} (a : But p H H1) (b : But p H1 H2) : But p H H2 := fun c u n h => b c u n (a c u n h)
theorem But.set {p : Addr} {H : Hp} {o : HO} : But p H (upd H p o) := fun b u n h => by rw [upd_ne n]; exact h
def Purse (H : Hp) (p : Addr) : Prop := ∃ a b c : Int, H p = some (.lst [.int a, .int b, .int c])
def Go (p : Addr) (H H' : Hp) : Prop := But p H H' ∧ Purse H' p
theorem Go.trans {p : Addr} {H H1 H2 : Hp} (a : Go p H H1) (b : Go p H1 H2) : Go p H H2 := ⟨a.1.trans b.1, b.2⟩
theorem Purse.new {p l : Addr} {H : Hp} {o : HO} (a : Purse H p) (h : H l = none) : Purse (upd H l o) p := by
  obtain ⟨x, y, z, e⟩ := a
  exact ⟨x, y, z, by rw [upd_ne (ne_of_none e h)]; exact e⟩
theorem Purse.tup {p t : Addr} {H : Hp} {xs : List V} (a : Purse H p) (h : H t = some (.tup xs)) : t ≠ p := by
  obtain ⟨x, y, z, e⟩ := a
  exact ne_of h e (by intro z; cases z)
structure M4 where
  lo : Int
  hi : Int
  t : Int
  m : Int
def apart (a b : M4) : Prop := a.lo ≠ b.lo ∧ a.lo ≠ b.hi ∧ a.hi ≠ b.lo ∧ a.hi ≠ b.hi
structure Good (w : Int) (ms : List M4) : Prop where
  few : ms.length ≤ 60
  each : ∀ r ∈ ms, 0 ≤ r.lo ∧ r.lo < r.hi ∧ r.hi < w ∧ 1 ≤ r.t ∧ r.t ≤ 1000000000 ∧ 1 ≤ r.m ∧ r.m ≤ 99
  order : ms.Pairwise fun a b => a.t < b.t ∨ (a.t = b.t ∧ a.lo < b.lo ∧ apart a b)
def spLaw (K : PySem.W.Frag) : Sp := fun vs H Q _ => ∃ (a : Addr) (ns : List Int), vs = [.ref a] ∧ SqL K H a (ns.map V.int) ∧ ns.length ≤ 63 ∧ ∀ H', Q (.bl true) H'
def spPurse (K : PySem.W.Frag) : Sp := fun vs H Q _ => ∃ (a : Addr) (ns : List Int) (k : Nat), vs = [.ref a, .int k] ∧ SqL K H a (ns.map V.int) ∧ k < 1000 ∧ ∀ p H', H p = none → Purse H' p → Same H H' → Q (.ref p) H'
def spTake : Sp := fun vs H Q _ => ∃ p n, vs = [.ref p, .int n] ∧ 0 < n ∧ n < 2 ^ 200 ∧ Purse H p ∧ ∀ d H', 0 ≤ d → d < n → Go p H H' → Q (.int d) H'
theorem iteD {c A B : Prop} [Decidable c] (h1 : c → A) (h2 : ¬ c → B) : if decide c = true then A else B := by
  by_cases h : c
  · rw [if_pos (decide_eq_true h)]; exact h1 h
  · rw [if_neg (by simpa using h)]; exact h2 h
theorem iteB0 {c : Bool} {A B : Prop} (hc : c = false) (h : B) : if c = true then A else B := by
  rw [if_neg (by rw [hc]; exact Bool.false_ne_true)]; exact h
theorem iteB1 {c : Bool} {A B : Prop} (hc : c = true) (h : A) : if c = true then A else B := by
  rw [if_pos hc]; exact h
theorem same_new {H : Hp} {p : Addr} {o : HO} (h : H p = none) : Same H (upd H p o) := fun b u e => by
  rw [upd_ne (ne_of_none e h)]; exact e
def M4.late (l : Int) (r : M4) : M4 := ⟨r.lo, r.hi, r.t + l, r.m⟩
theorem map_get {α : Type} {f : α → V} {l : List α} {i : Nat} {x : V} (h : (l.map f)[i]? = some x) : ∃ r, l[i]? = some r ∧ x = f r := by
  rw [List.getElem?_map] at h
  cases e : l[i]? with
  | none => rw [e] at h; cases h
  | some r => rw [e] at h; exact ⟨r, rfl, (Option.some.inj h).symm⟩
theorem But.same {p : Addr} {H H1 H2 : Hp} (hp : H p = none) (s : Same H H1) (g : But p H1 H2) : Same H H2 := fun b u e => g b u (ne_of_none e hp) (s b u e)
theorem Same.put {l : Addr} {H H' : Hp} {o : HO} (h : H l = none) (s : Same H H') : Same H (upd H' l o) := fun b u e => by rw [upd_ne (ne_of_none e h)]; exact s b u e
theorem tyS_lst {H : Hp} {l : Addr} {xs : List V} (h : H l = some (.lst xs)) : tyS H (.ref l) = some "list" := by simp only [tyS, h]
def hasW (w : Int) (r : M4) : Bool := decide (r.lo = w) || decide (r.hi = w)
def numsTo (ms : List M4) (w : Int) : Nat → List Int
  | 0 => []
  | i + 1 => numsTo ms w i ++ (if (ms[i]?).any (hasW w) = true then [(i : Int)] else [])
end Sm
namespace Sm
open PySem L2 SmSort
end Sm
namespace L2
open PySem PySem.Spec PyProof.Rows
end L2
set_option Elab.async false
set_option linter.all false
set_option maxRecDepth 100000
set_option maxHeartbeats 4000000
namespace L2
open PySem PySem.Spec PyProof.Rows
section
variable {X : Cx}
def oV : Option Int → V
  | none => .non
  | some i => .int i
end
end L2
namespace Sm
open PySem L2 SmSort
theorem ixN_nat {n k : Nat} (h : k < n) : ixN n (k : Int) = some k := by
  unfold ixN
  rw [if_pos (by omega), if_pos (by omega)]; simp
end Sm
set_option Elab.async false
set_option linter.all false
set_option maxRecDepth 100000
set_option maxHeartbeats 4000000
namespace Sm
open PySem L2 SmSort
abbrev Fn := Nat → Option Int
def put (f : Fn) (k : Nat) (x : Option Int) : Fn := fun i => if i = k then x else f i
theorem put_same {f : Fn} {k : Nat} {x : Option Int} : put f k x k = x := by unfold put; rw [if_pos rfl]
theorem put_ne {f : Fn} {k i : Nat} {x : Option Int} (h : i ≠ k) : put f k x i = f i := by unfold put; rw [if_neg h]
def lone (k : Nat) (x : Int) : Fn := fun i => if i = k then some x else none
def below (o : Option Int) (t : Int) : Bool := match o with
  | some y => decide (y < t)
  | none => false
theorem below_iff {o : Option Int} {t : Int} : below o t = true ↔ ∃ y, o = some y ∧ y < t := by
  cases o <;> simp [below]
def upto (o : Option Int) (t : Int) : Bool := match o with
  | some y => decide (y ≤ t)
  | none => false
structure W3 where
  g : Nat
  o : Nat
  t : Int
def two (m : M4) : List W3 := [⟨m.lo.toNat, m.hi.toNat, m.t⟩, ⟨m.hi.toNat, m.lo.toNat, m.t⟩]
def ways2 (ms : List M4) : List W3 := ms.flatMap two
def fstep (st : Fn) (x : W3) : Fn := if st x.o = none ∧ below (st x.g) x.t = true then put st x.o (some x.t) else st
def fwd (ms : List M4) (st : Fn) : Fn := (ways2 ms).foldl fstep st
theorem fstep_some {st : Fn} {x : W3} {i : Nat} {y : Int} (h : st i = some y) : fstep st x i = some y := by
  unfold fstep
  split
  · rename_i c
    by_cases e : i = x.o
    · rw [e, c.1] at h; cases h
    · rw [put_ne e]; exact h
  · exact h
def rep (n : Nat) (f : Fn) : List (Option Int) := (List.range n).map f
end Sm
namespace L2
open PySem PySem.Spec PyProof.Rows
section
variable {n : Nat} {caps : List Nat} {g : TG} {tc : TT} {te : TE} {σ : St} {H : Hp} {Qf : Addr → Hp → List V → Prop}
theorem comp_range {lo : Int} {m : Nat} (Pv : Nat → St → List V → Hp → Prop) (h0 : Pv 0 (tau0 n caps σ) [] H) (hn : m ≤ 1000) (hl : ∀ i τ acc H, Pv i τ acc H → acc.length ≤ i)
    (hs : ∀ i τ acc H (C : St → List V → Hp → Prop), i < m → Pv i τ acc H → (∀ τ acc H, Pv (i + 1) τ acc H → C τ acc H) → g (.int (lo + i)) τ H fun τ2 H2 => tc τ2 H2 fun b H3 => if b = true then te τ2 H3 fun y H4 => C τ2 (acc ++ [y]) H4 else C τ2 acc H3)
    (hd : ∀ τ acc H, Pv m τ acc H → ∀ p, H p = none → Qf p H acc) :
    ∃ W : Nat → Nat → St → List V → Hp → Prop, (∃ m, W 0 m (tau0 n caps σ) [] H) ∧ ∀ i m' τ acc H, W i m' τ acc H →
      ((Itr lo m).stop i H ∧ acc.length ≤ sizeLine ∧ ∀ p, H p = none → Qf p H acc) ∨
      ((Itr lo m).go i H ∧ acc.length < sizeLine ∧ ∀ x H', (Itr lo m).yld i H x H' → g x τ H' fun τ2 H2 => tc τ2 H2 fun b H3 => if b = true then te τ2 H3 fun y H4 => ∃ m'', m'' < m' ∧ W (i + 1) m'' τ2 (acc ++ [y]) H4 else ∃ m'', m'' < m' ∧ W (i + 1) m'' τ2 acc H3) :=
  comp_of (J := Itr lo m) Pv m h0 hn hl (fun i τ acc H hi p => hi) (fun τ acc H p => Nat.le_refl _)
    (fun i τ acc H C hi p c x H' y => by obtain ⟨e1, e2⟩ := y; subst e1; subst e2; exact hs i τ acc _ C hi p c) hd
end
end L2
set_option Elab.async false
set_option linter.all false
set_option maxRecDepth 100000
set_option maxHeartbeats 4000000
namespace Sm
open PySem L2 SmSort
def run (ws : List W3) (st : Fn) : Fn := ws.foldl fstep st
theorem run_keep : ∀ {ws : List W3} {st : Fn} {i : Nat} {y : Int}, st i = some y → run ws st i = some y
  | [], _, _, _, h => h
  | w :: ws, st, i, y, h => run_keep (ws := ws) (fstep_some h)
theorem run_from : ∀ {ws : List W3} {st : Fn} {i : Nat} {t : Int}, run ws st i = some t → st i = none → ∃ x ∈ ws, x.o = i ∧ x.t = t ∧ ∃ y, run ws st x.g = some y ∧ y < t
  | [], st, i, t, h, h0 => by
    have : st i = some t := h
    rw [h0] at this; cases this
  | w :: ws, st, i, t, h, h0 => by
    have h' : run ws (fstep st w) i = some t := h
    cases e : fstep st w i with
    | none =>
      obtain ⟨x, hx, a, b, y, hy, lt⟩ := run_from h' e
      exact ⟨x, .tail _ hx, a, b, y, hy, lt⟩
    | some z =>
      have z' := run_keep (ws := ws) e
      rw [h'] at z'; cases z'
      unfold fstep at e
      split at e
      · rename_i c
        by_cases io : i = w.o
        · subst io
          rw [put_same] at e; cases e
          obtain ⟨y, hy, lt⟩ := below_iff.mp c.2
          exact ⟨w, .head _, rfl, rfl, y, run_keep (ws := w :: ws) hy, lt⟩
        · rw [put_ne io, h0] at e; cases e
      · rw [h0] at e; cases e
end Sm
set_option Elab.async false
set_option linter.all false
set_option maxRecDepth 100000
set_option maxHeartbeats 4000000
namespace L2
open PySem PySem.Spec PyProof.Rows
section
variable {X : Cx} {pins : List (Addr × Obj)} {σ : St} {H : Hp} {s : Shared}
theorem Inv.keptAll {m : Str → Option Value} {h' : Heap} {tk : Nat} (I : Inv X pins σ H s) (F0 : Fr X.base X.env.locals s.heap m) (F : Fr X.base X.env.locals h' m)
    (N : News X.base X.env.locals h' (allNews X.base s.heap X.env.locals)) : Inv X pins σ H { s with heap := h', toks := tk } := by
  have keep : ∀ b o, b ≠ X.env.locals → s.heap.get? b = some o → h'.get? b = some o := fun b o hb e => by
    cases q : X.base.get? b with
    | some u =>
      have := I.bk b u q
      rw [e] at this; cases this
      exact F.keep b _ q
    | none => exact (N (b, o) (mem_allNews hb q e)).1
  refine I.step (g' := s.gens) (t' := tk) (d' := s.drawn) (ch := []) (fun _ z => nomatch z) (fun b o hb _ _ e _ => keep b o hb e) (fun b o hb _ _ e _ => ⟨o.slots, keep b o hb e⟩) (fun b o _ e n => n) (fun b o _ e => ?_)
    (fun b ys e => e) (fun b o u e => e) (fun b ps e => ⟨#[], by rw [e, Array.append_empty]⟩) (fun m' hm => ?_) (fun b u e => ?_) I.bare
  · by_cases hb : b = X.env.locals
    · obtain ⟨o', _, _, q, _⟩ := F.ns
      exact ⟨o', by rw [hb]; exact q⟩
    · exact ⟨o, keep b o hb e⟩
  · obtain ⟨o1, es1, ep1, e1, d1, k1, f1⟩ := hm
    obtain ⟨o2, es2, ep2, e2, d2, k2, f2⟩ := F0.ns
    rw [e1] at e2; cases e2
    rw [d1] at d2; cases d2
    obtain ⟨o3, es3, ep3, e3, d3, k3, f3⟩ := F.ns
    exact ⟨o3, es3, ep3, e3, d3, k3, fun name => (f3 name).trans ((f2 name).symm.trans (f1 name))⟩
  · refine (I.hok b u e).stay (fun c v hc q => keep c v (fun z => ?_) q) (fun c q => q) fun c ys q => q
    rcases hc with rfl | hc
    · rw [z, I.free] at e; cases e
    · rw [z, I.free] at hc; cases hc
theorem bools_of : ∀ {bs : List Bool} {us : List Value}, Vals (bs.map V.bl) us → LSm.BoolsAre us bs
  | [], us, r => by cases r; exact .nil
  | b :: bs, us, r => by
    cases r with
    | cons x y =>
      cases x
      exact .cons b (bools_of y)
theorem call_all {K : PySem.W.Frag} (hK : X.K = K) (hc : X.calm = true) : CallR X (.builtin "all") (fun xs H Q => ∃ p, ∃ bs : List Bool, xs = [.ref p] ∧ SqL K H p (bs.map V.bl) ∧ Q (.bl (bs.all id)) H) := by
  subst hK
  intro pins s σ H xs us Q I r h
  obtain ⟨p, bs, rfl, hq, q⟩ := h
  obtain ⟨u, rfl, rx⟩ := vals1 r
  cases rx
  obtain ⟨its, r', pl, hz⟩ := I.list hq
  obtain ⟨m, F⟩ := I.fr
  exact LSm.all_bools F (news_all (g := X.base) (h := s.heap)) (I.ok.hd hc) pl.isList (bools_of r') fun h' tk F' N' => ⟨.bl _, H, I.keptAll F F' N', rfl, q⟩
end
end L2
namespace Sm
open PySem L2 SmSort
end Sm
set_option Elab.async false
set_option linter.all false
namespace Sm
open PySem L2 SmSort
theorem ixt {K : PySem.W.Frag} {H : Hp} {a : Addr} {xs : List V} {i : Int} {v : V} {Q : V → Prop} (h : H a = some (.tup xs)) (hi : atI xs i = some v) (q : Q v) : ∃ p xs' i' v', V.ref a = .ref p ∧ V.int i = .int i' ∧ SqT K H p xs' ∧ atI xs' i' = some v' ∧ Q v' := ⟨a, xs, i, v, rfl, rfl, SqT.of h, hi, q⟩
theorem ixl {K : PySem.W.Frag} {H : Hp} {a : Addr} {xs : List V} {i : Int} {v : V} {Q : V → Prop} (h : H a = some (.lst xs)) (hi : atI xs i = some v) (q : Q v) : ∃ p xs' i' v', V.ref a = .ref p ∧ V.int i = .int i' ∧ SqL K H p xs' ∧ atI xs' i' = some v' ∧ Q v' := ⟨a, xs, i, v, rfl, rfl, SqL.of h, hi, q⟩
theorem us1 {fd : FuncData} {ps : List Str} {us : List Value} (h : us.length = 1) (q : ∀ a, bindArgs fd ⟨[a], []⟩ = pure (ps.zip [a])) : bindArgs fd ⟨us, []⟩ = pure (ps.zip us) := match us, h with | [a], _ => q a
theorem us2 {fd : FuncData} {ps : List Str} {us : List Value} (h : us.length = 2) (q : ∀ a b, bindArgs fd ⟨[a, b], []⟩ = pure (ps.zip [a, b])) : bindArgs fd ⟨us, []⟩ = pure (ps.zip us) := match us, h with | [a, b], _ => q a b
theorem us3 {fd : FuncData} {ps : List Str} {us : List Value} (h : us.length = 3) (q : ∀ a b c, bindArgs fd ⟨[a, b, c], []⟩ = pure (ps.zip [a, b, c])) : bindArgs fd ⟨us, []⟩ = pure (ps.zip us) := match us, h with | [a, b, c], _ => q a b c
theorem us4 {fd : FuncData} {ps : List Str} {us : List Value} (h : us.length = 4) (q : ∀ a b c d, bindArgs fd ⟨[a, b, c, d], []⟩ = pure (ps.zip [a, b, c, d])) : bindArgs fd ⟨us, []⟩ = pure (ps.zip us) := match us, h with | [a, b, c, d], _ => q a b c d
theorem un3 {K : PySem.W.Frag} {H : Hp} {a : Addr} {v0 v1 v2 : V} {Q : V → V → V → Prop} (h : H a = some (.tup [v0, v1, v2])) (q : Q v0 v1 v2) : ∃ a' xs, V.ref a = .ref a' ∧ SqT K H a' xs ∧ xs.length = 3 ∧ ∃ w0 r0, xs = w0 :: r0 ∧ ∃ w1 r1, r0 = w1 :: r1 ∧ ∃ w2 r2, r1 = w2 :: r2 ∧ r2 = [] ∧ Q w0 w1 w2 := ⟨a, _, rfl, SqT.of h, rfl, _, _, rfl, _, _, rfl, _, _, rfl, rfl, q⟩
theorem zr {α : Sort _} {A Q : α → Prop} {x : α} (a : A x) (q : Q x) : ∃ y, A y ∧ Q y := ⟨x, a, q⟩
theorem zr1 {α β : Sort _} {A Q : α → β → Prop} {x : α} {y : β} (a : A x y) (q : Q x y) : ∃ x y, A x y ∧ Q x y := ⟨x, y, a, q⟩
theorem zr2 {α β : Sort _} {A B Q : α → β → Prop} {x : α} {y : β} (a : A x y) (b : B x y) (q : Q x y) : ∃ x y, A x y ∧ B x y ∧ Q x y := ⟨x, y, a, b, q⟩
end Sm
set_option Elab.async false
set_option linter.all false
set_option maxRecDepth 100000
set_option maxHeartbeats 400000
namespace L2
open PySem PySem.Spec PyProof.Rows
section
variable {X : Cx}
theorem fills_list_iadd : fillsInplaceSlot (.type "list") "add" true = pure false := by
  show (do let fi ← typeLookup (.type "list") (dunderI "add"); pure (fi.isSome && !isSeqSlot fi)) = _
  rw [F.slot_list_iadd.lookup]; rfl
theorem seq_list_iadd : seqSlot? (.type "list") (dunderI "add") = pure (some (.builtin "list.__iadd__")) := by
  unfold seqSlot?
  rw [F.slot_list_iadd.lookup]; rfl
theorem wp_iadd_list {prog : Program} {w : World} {A : Around} {E : Value → Shared → Prop} {s : Shared} {a b : Value} {Q : Value → Shared → Prop} (ta : s.TypeIs a "list") (tb : s.TypeIs b "list") (h : wpAny (model prog w) A (call (.builtin "list.__iadd__") [a, b]) Q E s) : wpAny (model prog w) A (inplaceOp .Add a b) Q E s := by
  unfold inplaceOp
  refine wpAny_holding (wpAny_bind (wpAny_typeOf ta (wpAny_bind (wpAny_of_eq fills_list_iadd ?_))))
  dsimp only
  rw [if_neg Bool.false_ne_true]
  refine wpAny_bind (wpAny_binaryOp1_none ta tb noFill_list_add ?_)
  dsimp only
  refine wpAny_bind (wpAny_of_eq seq_list_iadd ?_)
  dsimp only
  exact wpAny_bind (wpAny_rule h)
theorem ip_cat : PIp X .Add (fun x y H Q => ∃ l b xs zs, x = .ref l ∧ y = .ref b ∧ H l = some (.lst xs) ∧ H b = some (.lst zs) ∧ xs.length + zs.length ≤ sizeLine ∧ Q (.ref l) (upd H l (.lst (xs ++ zs)))) := by
  intro pins s σ H x y v u Q I rx ry h
  obtain ⟨l, b, xs, zs, rfl, rfl, hH, hB, hz, q⟩ := h
  cases rx
  cases ry
  obtain ⟨z, its, n, r, hl, e⟩ := I.lstM hH
  obtain ⟨z2, its2, n2, r2, hl2, e2⟩ := I.lstM hB
  have hsz : its.toArray.size + its2.toArray.size ≤ sizeLine := by rw [List.size_toArray, List.size_toArray]; omega
  have hlong : ¬ (!its.toArray.isEmpty && Builtin.List.listTooLong (its.toArray.size + its2.toArray.size)) = true := by
    rw [notLongL hsz, Bool.and_false]
    exact Bool.false_ne_true
  refine wp_iadd_list ⟨_, e, rfl⟩ ⟨_, e2, rfl⟩ (call_meets F.slot_list_iadd ⟨_, e, rfl⟩ F.entry_list_iadd (F.args_list_iadd_2 _ _)
    (AutoSeq1.list___iadd___list_list_0 l its.toArray n b its2.toArray n2 hlong (by rw [List.size_toArray]; omega) (by omega)) ⟨e, e2, ?_⟩)
  refine ⟨.ref l, _, I.lset (its' := its ++ its2) hH e (by simp) (r.append r2) ?_, rfl, q⟩
  rw [List.length_append]
  omega
end
end L2
set_option Elab.async false
set_option linter.all false
set_option maxRecDepth 100000
set_option maxHeartbeats 4000000
namespace Sm
open PySem L2 SmSort
end Sm
namespace L2
open PySem
theorem iteN {c : Bool} {A : Prop} {D : Ends} {σ : St} {H : Hp} (Pre : St → Hp → Prop) (k : ∀ σ H, Pre σ H → D.nx σ H) (h1 : c = true → (∀ σ H, Pre σ H → D.nx σ H) → A) (h2 : c = false → Pre σ H) : if c = true then A else tNext D σ H := by
  cases c with
  | true => exact h1 rfl k
  | false => exact k _ _ (h2 rfl)
end L2
set_option Elab.async false
set_option linter.all false
set_option maxRecDepth 100000
set_option maxHeartbeats 400000
namespace Sm
open PySem L2 SmSort
def jstep (row F : Fn) (x : W3) : Fn := if below (row x.g) x.t = true ∧ upto (F x.o) x.t = false then put F x.o (some x.t) else F
def jac (ws : List W3) (row : Fn) : Fn := ws.foldl (jstep row) row
def jrow (ws : List W3) (row : Fn) : Nat → Fn
  | 0 => row
  | k + 1 => jac ws (jrow ws row k)
end Sm
set_option Elab.async false
set_option linter.all false
set_option maxRecDepth 100000
set_option maxHeartbeats 400000
namespace Sm
open PySem L2 SmSort
structure Rows (H0 H : Hp) (ms : List M4) (n k : Nat) (x : Int) (as : List Addr) : Prop where
  pos : as ≠ []
  few : as.length ≤ 200000
  at' : ∀ (i : Nat) (a : Addr), as[i]? = some a → H0 a = none ∧ H a = some (.lst ((rep n (jrow (ways2 ms) (lone k x) i)).map oV))
  ne : ∀ i, i + 1 < as.length → rep n (jrow (ways2 ms) (lone k x) (i + 1)) ≠ rep n (jrow (ways2 ms) (lone k x) i)
  last : rep n (jrow (ways2 ms) (lone k x) as.length) = rep n (jrow (ways2 ms) (lone k x) (as.length - 1))
end Sm
namespace L2
open PySem PySem.Spec PyProof.Rows
section
variable {K : PySem.W.Frag} {a : Addr} {xs : List V} {n : Nat} {caps : List Nat} {g : TG} {tc : TT} {te : TE} {σ : St} {H : Hp} {Qf : Addr → Hp → List V → Prop}
theorem comp_ofB {J : It} (Pv : Nat → St → List V → Hp → Prop) (len : Nat) (h0 : Pv 0 (tau0 n caps σ) [] H) (hn : len ≤ 200000) (hl : ∀ i τ acc H, Pv i τ acc H → acc.length ≤ i)
    (hgo : ∀ i τ acc H, i < len → Pv i τ acc H → J.go i H) (hstop : ∀ τ acc H, Pv len τ acc H → J.stop len H)
    (hs : ∀ i τ acc H (C : St → List V → Hp → Prop), i < len → Pv i τ acc H → (∀ τ acc H, Pv (i + 1) τ acc H → C τ acc H) → ∀ x H', J.yld i H x H' → g x τ H' fun τ2 H2 => tc τ2 H2 fun b H3 => if b = true then te τ2 H3 fun y H4 => C τ2 (acc ++ [y]) H4 else C τ2 acc H3)
    (hd : ∀ τ acc H, Pv len τ acc H → ∀ p, H p = none → Qf p H acc) :
    ∃ W : Nat → Nat → St → List V → Hp → Prop, (∃ m, W 0 m (tau0 n caps σ) [] H) ∧ ∀ i m τ acc H, W i m τ acc H →
      (J.stop i H ∧ acc.length ≤ sizeLine ∧ ∀ p, H p = none → Qf p H acc) ∨
      (J.go i H ∧ acc.length < sizeLine ∧ ∀ x H', J.yld i H x H' → g x τ H' fun τ2 H2 => tc τ2 H2 fun b H3 => if b = true then te τ2 H3 fun y H4 => ∃ m', m' < m ∧ W (i + 1) m' τ2 (acc ++ [y]) H4 else ∃ m', m' < m ∧ W (i + 1) m' τ2 acc H3) := by
  have line : 200001 ≤ sizeLine := by rw [sizeLine_eq]; decide
  refine ⟨fun i m τ acc H => m = len - i ∧ i ≤ len ∧ Pv i τ acc H, ⟨len, by simp, Nat.zero_le _, h0⟩, ?_⟩
  rintro i m τ acc H ⟨rfl, hi, p⟩
  have q := hl i τ acc H p
  by_cases hlt : i < len
  · exact .inr ⟨hgo i τ acc H hlt p, by omega, fun x H' y => hs i τ acc H (fun τ acc H => ∃ m', m' < len - i ∧ m' = len - (i + 1) ∧ i + 1 ≤ len ∧ Pv (i + 1) τ acc H) hlt p (fun τ acc H p' => ⟨len - (i + 1), by omega, rfl, hlt, p'⟩) x H' y⟩
  · have e : i = len := by omega
    subst e
    exact .inl ⟨hstop τ acc H p, by omega, hd τ acc H p⟩
theorem comp_listB (Pv : Nat → St → List V → Hp → Prop) (h0 : Pv 0 (tau0 n caps σ) [] H) (hn : xs.length ≤ 200000) (hl : ∀ i τ acc H, Pv i τ acc H → acc.length ≤ i ∧ SqL K H a xs)
    (hs : ∀ i x τ acc H (C : St → List V → Hp → Prop), xs[i]? = some x → Pv i τ acc H → (∀ τ acc H, Pv (i + 1) τ acc H → C τ acc H) → g x τ H fun τ2 H2 => tc τ2 H2 fun b H3 => if b = true then te τ2 H3 fun y H4 => C τ2 (acc ++ [y]) H4 else C τ2 acc H3)
    (hd : ∀ τ acc H, Pv xs.length τ acc H → ∀ p, H p = none → Qf p H acc) :
    ∃ W : Nat → Nat → St → List V → Hp → Prop, (∃ m, W 0 m (tau0 n caps σ) [] H) ∧ ∀ i m τ acc H, W i m τ acc H →
      ((Itl K a).stop i H ∧ acc.length ≤ sizeLine ∧ ∀ p, H p = none → Qf p H acc) ∨
      ((Itl K a).go i H ∧ acc.length < sizeLine ∧ ∀ x H', (Itl K a).yld i H x H' → g x τ H' fun τ2 H2 => tc τ2 H2 fun b H3 => if b = true then te τ2 H3 fun y H4 => ∃ m', m' < m ∧ W (i + 1) m' τ2 (acc ++ [y]) H4 else ∃ m', m' < m ∧ W (i + 1) m' τ2 acc H3) :=
  comp_ofB (J := Itl K a) Pv xs.length h0 hn (fun i τ acc H p => (hl i τ acc H p).1) (fun i τ acc H hi p => ⟨xs, xs[i], (hl i τ acc H p).2, by simp [hi]⟩) (fun τ acc H p => ⟨xs, (hl _ τ acc H p).2, Nat.le_refl _⟩)
    (fun i τ acc H C hi p c x H' y => by obtain ⟨e, y⟩ := y; subst e; exact hs i x τ acc _ C (y xs (hl i τ acc _ p).2) p c) hd
end
end L2
namespace Sm
open PySem L2 SmSort
end Sm
namespace Sm
open PySem L2 SmSort
end Sm
namespace Sm
open PySem L2
end Sm
set_option Elab.async false
set_option linter.all false
set_option maxRecDepth 100000
set_option maxHeartbeats 400000
namespace Sm
open PySem L2 SmSort
def again (ms : List M4) (day first : Int) : Nat → List M4
  | 0 => []
  | r + 1 => again ms day first r ++ ms.map (M4.late ((first + r) * day))
end Sm
set_option Elab.async false
set_option linter.all false
set_option maxRecDepth 100000
set_option maxHeartbeats 400000
namespace L2
open PySem PySem.Spec PyProof.Rows
def Itd (lo c : Int) (n : Nat) : It := ⟨fun i _ => i < n, fun i H x H' => H' = H ∧ x = .int (lo + i * c), fun i _ => n ≤ i⟩
theorem turn_rangeS {P : Program} {w : World} {K : PySem.W.Frag} {tg : Expr} (it : Addr) (lo c : Int) (n : Nat) : Turn P w K tg (Itd lo c n) [it] it (fun i h => IsRangeIter h it (lo + (i : Nat) * c) ((n : Int) - (i : Nat)) c) where
  mem := by simp
  obj := fun i h st b hb => by
    have e : b = it := by simpa using hb
    subst e
    exact ⟨_, st, fun v z => by
      have z' : Data.fields _ = Data.cell v := z
      cases z'⟩
  keep := fun i h h' st k => k it (by simp) _ st
  item := by
    intro X hP hw hK hc i pins s σ H E I hf st hg
    subst hP hw hK
    obtain ⟨f0, f1, f2, f3, f4, f5⟩ := hf it (by simp)
    have W := Walks.range (prog := X.prog) (w := X.w) (I.ok.hd hc) it lo c n
    refine W.item i s _ _ hg st fun v h' tk hv st' kk => ?_
    obtain ⟨t, rfl⟩ := hv
    have I1 : Inv X pins σ H { s with heap := h', toks := tk } := I.turned (fun b o hb e => kk b o (by simpa using hb) e) f0 f1 f3 f4 f5
    exact ⟨_, rfl, go_of (s := { s with heap := h', toks := tk }) (n := "range_iterator") st' rfl rfl (by decide) ⟨.int (lo + i * c), H, I1, ⟨t, rfl⟩, ⟨rfl, rfl⟩, st', fun b hb => (hf b hb).1⟩⟩
  done := by
    intro X hP hw hK hc i pins s σ H E I hf st hg
    subst hP hw hK
    obtain ⟨f0, f1, f2, f3, f4, f5⟩ := hf it (by simp)
    exact wpAny_pyNext_range_end (I.ok.hd hc) st (by have : n ≤ i := hg; omega) fun h' eb => ⟨rfl, I.turned (t' := s.toks) (fun b o hb e => eb b o hb e) f0 f1 f3 f4 f5⟩
  self := fun _ _ _ _ _ st h => wpAny_pyIter_rangeiter st h
section
variable {X : Cx} {tg : Expr}
theorem range_itS {pins : List (Addr × Obj)} {σ : St} {H : Hp} {s : Shared} {R : It → Hp → Prop} {E : Value → Shared → Prop} {lo hi c : Int} {n : Nat} {t u v : Tok} {tk : Nat} (I : Inv X pins σ H s) (hs : Builtin.Range.small lo hi c = true) (hn : Builtin.Range.rangeSize lo hi c = (n : Int))
    (q : R (Itd lo c n) H) : wpAny (model X.prog X.w) X.A (pyIter (.ref s.heap.objs.size)) (PIE X pins σ tg R) E { s with heap := s.heap.push { cls := .type "range", data := .fields #[.int lo t, .int hi u, .int c v] }, toks := tk } := by
  refine wpAny_pyIter_range (IsRange.new ..) hs ?_
  have I1 : Inv X pins σ H { s with heap := s.heap.push { cls := .type "range", data := .fields #[.int lo t, .int hi u, .int c v] }, toks := tk } := I.kept fun b o e => Heap.get?_push_of_some _ e
  refine ⟨(s.heap.push { cls := .type "range", data := .fields #[.int lo t, .int hi u, .int c v] }).objs.size, [(s.heap.push { cls := .type "range", data := .fields #[.int lo t, .int hi u, .int c v] }).objs.size], _, _, H, rfl,
    I1.kept (t' := tk) fun b o e => Heap.get?_push_of_some _ e, turn_rangeS _ lo c n, ?_, fun b hb => ?_, q⟩
  · show IsRangeIter _ _ (lo + ((0 : Nat) : Int) * c) ((n : Int) - ((0 : Nat) : Int)) c
    rw [show lo + ((0 : Nat) : Int) * c = lo by simp, show (n : Int) - ((0 : Nat) : Int) = Builtin.Range.rangeSize lo hi c by rw [hn]; simp]
    exact Heap.get?_push_size _ rfl
  · have e : b = (s.heap.push { cls := .type "range", data := .fields #[.int lo t, .int hi u, .int c v] }).objs.size := by simpa using hb
    subst e
    exact I1.fpOk (Nat.le_refl _) (I1.hok.fresh (Nat.le_refl _))
def iRng3 (ta : TA) : TI := fun σ H R => ta σ H fun vs H1 => ∃ i j c : Int, ∃ n : Nat, vs = [.int i, .int j, .int c] ∧ c ≠ 0 ∧ Builtin.divisionGoesByPylong (j - i) c = false ∧ Builtin.Range.small i j c = true ∧ Builtin.Range.rangeSize i j c = (n : Int) ∧ R (Itd i c n) H1
theorem pi_range3 {a b d : Expr} {ta : TA} {p pos : Pos} (hg : Gl X "range") (hm : X.mg "range" = none) (ha : PA X [a, b, d] ta) (hs : starEach [a, b, d] X.env = [(false, eval a X.env), (false, eval b X.env), (false, eval d X.env)] := by rfl) (hs2 : starEach [b, d] X.env = [(false, eval b X.env), (false, eval d X.env)] := by rfl) :
    PI X tg (.Call (.Name "range" p) [a, b, d] [] pos) (iRng3 ta) := by
  intro pins s σ H R I h
  refine Call_ (ld_blt I hg hm boot_range (PyProof.Rows.callWith_type1 (thn (ha pos pins s σ H _ I h) fun us s1 ⟨vs, H1, I1, r1, q1⟩ => ?_) (by rw [hs, hs2]) (by rw [hs2]; rfl)))
  obtain ⟨i, j, c, n, e, c0, np, sm, hn, q⟩ := q1
  subst e
  cases r1 with
  | cons r rr =>
    cases rr with
    | cons r' rr =>
      cases rr with
      | cons r'' rr =>
        cases rr
        obtain ⟨t, rfl⟩ := r
        obtain ⟨t', rfl⟩ := r'
        obtain ⟨t'', rfl⟩ := r''
        exact call_range_3 c0 (range_itS I1 sm hn q) (.inl np)
theorem for_rangeS {lo c : Int} {n : Nat} {g : TG} {tb : TS} {D : Ends} {σ : St} {H : Hp} (Pv : Nat → St → Hp → Prop) (h0 : Pv 0 σ H)
    (hs : ∀ i σ H, i < n → Pv i σ H → g (.int (lo + i * c)) σ H fun σ2 H2 => tb { D with nx := Pv (i + 1), ct := Pv (i + 1), bk := D.nx } σ2 H2) (hd : ∀ σ H, Pv n σ H → D.nx σ H) :
    ∃ W : Nat → Nat → St → Hp → Prop, (∃ m, W 0 m σ H) ∧ ∀ i m σ H, W i m σ H →
      ((Itd lo c n).stop i H ∧ D.nx σ H) ∨ ((Itd lo c n).go i H ∧ ∃ N : St → Hp → Prop, (∀ σ' H', N σ' H' → ∃ m', m' < m ∧ W (i + 1) m' σ' H') ∧ ∀ x H', (Itd lo c n).yld i H x H' → g x σ H' fun σ2 H2 => tb { D with nx := N, ct := N, bk := D.nx } σ2 H2) := by
  refine ⟨fun i m σ H => m = n - i ∧ i ≤ n ∧ Pv i σ H, ⟨n, by simp, Nat.zero_le _, h0⟩, ?_⟩
  rintro i m σ H ⟨rfl, hi, p⟩
  by_cases hlt : i < n
  · refine .inr ⟨hlt, Pv (i + 1), fun σ' H' p' => ⟨n - (i + 1), by omega, rfl, hlt, p'⟩, fun x H' y => ?_⟩
    obtain ⟨e, y⟩ := y
    subst e; subst y
    exact hs i σ _ hlt p
  · have e : i = n := by omega
    subst e
    exact .inl ⟨Nat.le_refl _, hd σ H p⟩
end
end L2
namespace L2
open PySem PySem.Spec PyProof.Rows
section
variable {X : Cx}
end
end L2
namespace HT
open PySem PySem.Spec PyProof.Rows
section
variable {prog : Program} {w : World} {A : Around} {E : Value → Shared → Prop} {s : Shared}
end
end HT
namespace L2
open PySem PySem.Spec PyProof.Rows
section
variable {X : Cx}
end
end L2
set_option Elab.async false
set_option linter.all false
set_option maxRecDepth 100000
set_option maxHeartbeats 400000
namespace L2
open PySem PySem.Spec PyProof.Rows
section
variable {X : Cx} {pins : List (Addr × Obj)} {σ : St} {H : Hp} {s : Shared}
theorem vals_at {xs : List V} {us : List Value} (r : Vals xs us) {j : Nat} (h : j < us.toArray.size) : ∃ x, xs[j]? = some x ∧ RelV x us.toArray[j] := by
  have hl := r.length
  simp only [List.size_toArray] at h
  have a1 : j < xs.length := by omega
  obtain ⟨u, eu, ru⟩ := r.get (i := j) (x := xs[j]) (by simp [a1])
  have e1 : us.toArray[j] = u := by rw [List.getElem_toArray]; exact Option.some.inj ((List.getElem?_eq_getElem h).symm.trans eu)
  exact ⟨xs[j], by simp [a1], by rw [e1]; exact ru⟩
end
end L2
set_option Elab.async false
set_option linter.all false
set_option maxRecDepth 100000
set_option maxHeartbeats 400000
namespace L2
open PySem PySem.Spec PyProof.Rows
def Eqv (K : PySem.W.Frag) (H : Hp) : Nat → V → V → Bool → Prop
  | 0, x, y, b => (x = y ∧ (∃ a, x = .ref a) ∧ b = true) ∨ (flatV x = true ∧ flatV y = true ∧ b = eqV x y)
  | n + 1, x, y, b => (x = y ∧ (∃ a, x = .ref a) ∧ b = true) ∨ (flatV x = true ∧ flatV y = true ∧ b = eqV x y) ∨ ∃ (a c : Addr) (xs ys : List V) (e : Nat → Bool), x = .ref a ∧ y = .ref c ∧ ((SqL K H a xs ∧ SqL K H c ys) ∨ (SqT K H a xs ∧ SqT K H c ys)) ∧ (a = c → b = true) ∧ b = (decide (xs.length = ys.length) && (List.range xs.length).all e) ∧ ∀ (i : Nat) (x y : V), xs[i]? = some x → ys[i]? = some y → Eqv K H n x y (e i)
section
variable {X : Cx} {pins : List (Addr × Obj)} {σ : St} {H : Hp} {s : Shared}
theorem eqv_eq (I : Inv X pins σ H s) : ∀ (n : Nat) {A : Around} {x y : V} {b : Bool} {u v : Value}, A.units + n < cLine → Eqv X.K H n x y b → RelV x u → RelV y v → SeqAt.EqAt A s u v b
  | n, A, x, y, b, u, v, hu, h, ru, rv => by
    have base1 : x = y ∧ (∃ a, x = .ref a) ∧ b = true → SeqAt.EqAt A s u v b := by
      rintro ⟨rfl, ⟨a, rfl⟩, rfl⟩
      cases ru; cases rv
      exact SeqAt.EqAt.same _
    have base2 : flatV x = true ∧ flatV y = true ∧ b = eqV x y → SeqAt.EqAt A s u v b := by
      rintro ⟨h1, h2, rfl⟩
      exact eqAt_V (A := A) (s := s) ru rv h1 h2
    cases n with
    | zero => exact h.elim base1 base2
    | succ n =>
      rcases h with h | h | ⟨a, c, xs, ys, e, rfl, rfl, h, hs, hb, hi⟩
      · exact base1 h
      · exact base2 h
      · cases ru; cases rv
        by_cases ne : a = c
        · rw [hs ne, ne]; exact SeqAt.EqAt.same _
        refine SeqAt.EqAt.of_refs ne ?_
        rcases h with ⟨h1, h2⟩ | ⟨h1, h2⟩
        · obtain ⟨its, r1, p1, _⟩ := I.list h1
          obtain ⟨its2, r2, p2, _⟩ := I.list h2
          have l1 := r1.length
          have l2 := r2.length
          by_cases hl : xs.length = ys.length
          · have := SeqAt.RcAt.lists (A := A) (e := e) p1.isList p2.isList (by simp; omega) (by omega) fun j h1 h2 => by
              obtain ⟨x, ex, rx⟩ := vals_at r1 h1
              obtain ⟨y, ey, ry⟩ := vals_at r2 h2
              exact eqv_eq I n (by show A.units + 1 + n < cLine; omega) (hi j x y ex ey) rx ry
            rw [hb, decide_eq_true hl, Bool.true_and, l1]
            simpa using this
          · rw [hb, decide_eq_false hl, Bool.false_and]
            exact SeqAt.RcAt.lists_lengths (A := A) p1.isList p2.isList (by simp; omega) (by omega)
        · obtain ⟨its, r1, p1, _⟩ := I.tuple h1
          obtain ⟨its2, r2, p2, _⟩ := I.tuple h2
          have l1 := r1.length
          have l2 := r2.length
          have := SeqAt.RcAt.tuples (A := A) (e := e) p1 p2 (by omega) fun j h1 h2 => by
            obtain ⟨x, ex, rx⟩ := vals_at r1 h1
            obtain ⟨y, ey, ry⟩ := vals_at r2 h2
            exact eqv_eq I n (by show A.units + 1 + n < cLine; omega) (hi j x y ex ey) rx ry
          by_cases hl : xs.length = ys.length
          · rw [hb, decide_eq_true hl, Bool.true_and, l1]
            have e1 : its2.length = its.length := by omega
            simpa [e1] using this
          · rw [hb, decide_eq_false hl, Bool.false_and]
            have e1 : ¬ its.length = its2.length := by omega
            have e2 : (its.toArray.size == its2.toArray.size) = false := by simp [e1]
            rw [e2, Bool.and_false] at this
            exact this
def rEqv (K : PySem.W.Frag) (neg : Bool) : R2 := fun x y H Q => ∃ (n : Nat) (a c : Addr) (xs ys : List V) (e : Nat → Bool) (b : Bool), n ≤ 20 ∧ x = .ref a ∧ y = .ref c ∧ ((SqL K H a xs ∧ SqL K H c ys) ∨ (SqT K H a xs ∧ SqT K H c ys)) ∧ b = (decide (xs.length = ys.length) && (List.range xs.length).all e) ∧ (∀ (i : Nat) (x y : V), xs[i]? = some x → ys[i]? = some y → Eqv K H n x y (e i)) ∧ Q (.bl (if neg then !b else b)) H
theorem op_neE (hu : X.A.units + 64 < cLine) : OpR X (compareOp .NotEq) (rEqv X.K true) := by
  intro pins s σ H x y v u Q I rx ry h
  obtain ⟨n, a, c, xs, ys, e, b, hn, rfl, rfl, h, hb, hi, q⟩ := h
  cases rx; cases ry
  rw [if_pos rfl, hb] at q
  rcases h with ⟨h1, h2⟩ | ⟨h1, h2⟩
  · obtain ⟨its, r1, p1, _⟩ := I.list h1
    obtain ⟨its2, r2, p2, _⟩ := I.list h2
    have l1 := r1.length
    have l2 := r2.length
    by_cases hl : xs.length = ys.length
    · rw [decide_eq_true hl, Bool.true_and, l1] at q
      exact SeqAt.RcNeAt.lists (e := e) p1.isList p2.isList (by simp; omega) (by omega) (fun j h1 h2 => by
        obtain ⟨x, ex, rx⟩ := vals_at r1 h1
        obtain ⟨y, ey, ry⟩ := vals_at r2 h2
        exact eqv_eq I n (by show X.A.units + 1 + n < cLine; omega) (hi j x y ex ey) rx ry) _ _ _ _ ⟨.bl _, H, I, rfl, by simpa using q⟩
    · rw [decide_eq_false hl, Bool.false_and] at q
      exact SeqAt.RcNeAt.lists_lengths p1.isList p2.isList (by simp; omega) (by omega) _ _ _ _ ⟨.bl _, H, I, rfl, q⟩
  · obtain ⟨its, r1, p1, _⟩ := I.tuple h1
    obtain ⟨its2, r2, p2, _⟩ := I.tuple h2
    have l1 := r1.length
    have l2 := r2.length
    have key : ((List.range (min its.toArray.size its2.toArray.size)).all e && its.toArray.size == its2.toArray.size) = (decide (xs.length = ys.length) && (List.range xs.length).all e) := by
      by_cases hl : xs.length = ys.length
      · have e1 : its2.length = its.length := by omega
        rw [decide_eq_true hl, Bool.true_and, l1]; simp [e1]
      · have e1 : ¬ its.length = its2.length := by omega
        rw [decide_eq_false hl, Bool.false_and]; simp [e1]
    rw [← key] at q
    exact SeqAt.RcNeAt.tuples (e := e) p1 p2 (by omega) (fun j h1 h2 => by
      obtain ⟨x, ex, rx⟩ := vals_at r1 h1
      obtain ⟨y, ey, ry⟩ := vals_at r2 h2
      exact eqv_eq I n (by show X.A.units + 1 + n < cLine; omega) (hi j x y ex ey) rx ry) _ _ _ _ ⟨.bl _, H, I, rfl, q⟩
end
theorem eqV_int (x y : Int) : eqV (.int x) (.int y) = decide (x = y) := rfl
end L2
set_option Elab.async false
set_option linter.all false
set_option maxRecDepth 100000
set_option maxHeartbeats 4000000
namespace L2
open PySem PySem.Spec PyProof.Rows
section
variable {X : Cx}
theorem int_items : ∀ {ns : List Int} {its : List Value}, Vals (ns.map V.int) its → ∃ xs : List (Int × Tok), its = xs.map (fun p => Value.int p.1 p.2) ∧ xs.map (·.1) = ns
  | [], _, r => by cases r; exact ⟨[], rfl, rfl⟩
  | n :: ns, _, r => by
    cases r with
    | cons r1 rr =>
      obtain ⟨t, rfl⟩ := r1
      obtain ⟨xs, rfl, e⟩ := int_items rr
      exact ⟨(n, t) :: xs, rfl, by rw [List.map_cons, e]⟩
end
end L2
namespace Sm
open PySem L2 SmSort
end Sm
set_option Elab.async false
set_option linter.all false
set_option maxRecDepth 100000
set_option maxHeartbeats 4000000
namespace Sm
open PySem L2 SmSort
theorem ahead {n : Nat} {ms : List M4} {m : M4} (g : Good n (ms ++ [m])) {v : Nat} {x y : Int} {i : Nat} (hi : i ≠ v) (h : fwd ms (lone v x) i = some y) : y ≤ m.t ∧ ((i = m.lo.toNat ∨ i = m.hi.toNat) → y < m.t) := by
  obtain ⟨a, ha, ao, at', _⟩ := run_from (ws := ways2 ms) h (by simp [lone, hi])
  unfold ways2 at ha
  obtain ⟨c, hc, hx⟩ := List.mem_flatMap.mp ha
  have od := (List.pairwise_append.mp g.order).2.2 c hc m (by simp)
  obtain ⟨c1, c2, c3, _⟩ := g.each c (by simp [hc])
  obtain ⟨m1, m2, m3, _⟩ := g.each m (by simp)
  unfold two at hx
  simp only [List.mem_cons, List.not_mem_nil, or_false] at hx
  have ct : c.t = y := by rcases hx with rfl | rfl <;> exact at'
  have ci : i = c.lo.toNat ∨ i = c.hi.toNat := by
    rcases hx with rfl | rfl
    · exact .inr ao.symm
    · exact .inl ao.symm
  refine ⟨by rcases od with h | h <;> omega, fun hm => ?_⟩
  rcases od with h | ⟨h1, h2, h3, h4, h5, h6⟩
  · omega
  · exfalso
    rcases ci with e | e <;> rcases hm with e' | e' <;> omega
end Sm
set_option Elab.async false
set_option linter.all false
set_option maxRecDepth 100000
set_option maxHeartbeats 4000000
namespace L2
open PySem PySem.Spec PyProof.Rows
section
variable {X : Cx} {pins : List (Addr × Obj)} {σ : St} {H : Hp} {s : Shared}
theorem ps_setComp {ix : Nat} {xn : Str} {pos' spos : Pos} {own : List Str} {caps : List Nat} {elt tg iter : Expr} {ifs : List Expr} {scope : Scope} {pos : Pos} {wi : TI} {g : TG} {tc : TT} {te : TE} (hN : X.N.Nodup) (hix : X.N[ix]? = some xn) (hxl : Loc X.env.scope xn) (hc : X.calm = true) (S : CompScope own caps X.N X.env.scope scope) (hi : PI X tg iter wi)
    (hg : ∀ s H fp C, PG (cxComp X own caps scope s H fp C) tg g) (ht : ∀ s H fp C, PTs (cxComp X own caps scope s H fp C) ifs tc) (he : ∀ s H fp C, PE (cxComp X own caps scope s H fp C) elt te)
    (hs : ∀ x, foldedSetIterable iter X.env x = pure x := by intro _; rfl) (hsw : swapsWith (.ListComp elt [⟨tg, iter, ifs, 0⟩] scope pos) (some (.Name xn pos')) spos.line X.env = pure true := by rfl)
    (hf : X.fn xn = true ∨ X.env.scope.names.lookup xn = some .local := by first | exact .inl rfl | exact .inr rfl | assumption) :
    PS X (.Assign [.Name xn pos'] (.ListComp elt [⟨tg, iter, ifs, 0⟩] scope pos) spos) (tAsg (tComp own.length caps wi g tc te) (gName ix)) := by
  intro pins s σ H D0 I h
  rw [exec_Assign_Name_used _ _ _ _ hsw, arm_evalThenUse_ListComp]
  suffices main : wpAny (model X.prog X.w) X.A (comprehension (.ListComp elt [⟨tg, iter, ifs, 0⟩] scope pos) scope X.env (firstIterPos [⟨tg, iter, ifs, 0⟩] pos) (newList []) false (eval iter X.env) (some (assign (.Name xn pos') X.env))) (fun _ s1 => SP X pins D0 .next s1) X.xe s from
    wpAny_bind (wpAny_standAt (wpAny_bind (wpAny_bind (wpAny_mono main (fun _ s1 h => wpAny_pure (wpAny_pure h)) fun _ _ e => e))))
  refine wpAny_comprehension_free (use := some _) (cl := clOf scope.names X.env []) rfl hs (closureFor_eq fun y hy e => I.ok.has y.1 (S.fr y hy e)) S.kind S.loc
    (wpAny_mono (hi pins s σ H _ I h) (fun v s1 h1 => thn h1 fun itv s2 h2 => ?_) fun _ _ e => e)
  obtain ⟨it, fp, tn, J, H2, e, I2, T, st2, f2, W, ⟨m0, w0⟩, turn⟩ := h2
  subst e
  refine wpAny_newObj_type (wpAny_newFunctionEnv S.nocell (by intro y hy; simp at hy) (fun h₁ hns₁ hsb₁ => ?_) S.kind)
  dsimp only at hns₁ hsb₁ ⊢
  generalize hH2 : s2.heap.push { cls := .type "list", dict := none, data := .seq ([] : List Value).toArray } = G at hns₁ hsb₁ ⊢
  have hG : G.objs.size = s2.heap.objs.size + 1 := by rw [← hH2, Heap.size_push]
  have hDC : s2.heap.objs.size ≠ G.objs.size := by rw [hG]; exact Nat.ne_of_lt (Nat.lt_succ_self _)
  have hCle : s2.heap.objs.size ≤ G.objs.size := by rw [hG]; exact Nat.le_succ _
  have below : ∀ b, b < s2.heap.objs.size → b ≠ G.objs.size := fun b hb => by rw [hG]; exact Nat.ne_of_lt (Nat.lt_succ_of_lt hb)
  have old : ∀ b o, s2.heap.get? b = some o → h₁.get? b = some o := fun b o e => hsb₁.extBut b o (below b (Heap.lt_size e)) (Heap.get?_push_of_some _ (hH2 ▸ Heap.get?_push_of_some _ e))
  have hacc : h₁.get? s2.heap.objs.size = some { cls := .type "list", dict := none, data := .seq ([] : List Value).toArray } := hsb₁.extBut _ _ hDC (Heap.get?_push_of_some _ (hH2 ▸ Heap.get?_push_size _ rfl))
  have fl : ∀ b ∈ fp, b < s2.heap.objs.size := fun b hb => let ⟨o, e, _⟩ := T.obj _ _ st2 b hb; Heap.lt_size e
  have hns₁' : h₁.Ns G.objs.size fun _ => none := hns₁
  have I4 := inv_comp (tk := s2.toks + ([] : List (Str × Value)).length) I2 S f2 fl (Nat.le_refl _) hCle hDC old hns₁' hacc (fun v z => nomatch z)
  have st4 : tn 0 h₁ := T.keep _ _ _ st2 fun b _ o e => old b o e
  generalize hs4 : ({ s2 with heap := h₁, toks := s2.toks + ([] : List (Str × Value)).length } : Shared) = s4 at I4 ⊢
  have e4 : s4.heap = h₁ := by rw [← hs4]
  rw [← e4] at st4
  -- the loop
  have loop : codeAny (model X.prog X.w) X.A (.compLoop (.ListComp elt [⟨tg, iter, ifs, 0⟩] scope pos) 0 (.ref it) (.ref s2.heap.objs.size) (compEnvC scope (clOf scope.names X.env []) G.objs.size X.env))
      (compPost (model X.prog X.w) X.A X.xe (some (assign (.Name xn pos') X.env)) (fun _ s1 => SP X pins D0 .next s1) (.ref s2.heap.objs.size) G.objs.size) s4 := by
    let Y := cxComp X own caps scope s2 H2 fp G.objs.size
    have stat : ∀ {H' : Hp} {its : List Value} {n : Nat}, (∀ b ∈ fp, H' b = none) → ∀ b ∈ fp, FpOk Y [(s2.heap.objs.size, ({ cls := .type "list", data := .seq its.toArray n } : Obj))] H' b := fun {H' its n} hn b hb => by
      refine ⟨hn b hb, below b (fl b hb), fun z => ?_, .inl hb, fun x c e => (f2 b hb).2.2.2.2.1 x c (clOf_lookup e), fun p hp => ?_⟩
      · rcases List.mem_cons.mp (I2.stkSub b z) with e | e
        · exact (f2 b hb).2.1 e
        · exact (f2 b hb).2.2.1 e
      · have e : p = (s2.heap.objs.size, ({ cls := .type "list", data := .seq its.toArray n } : Obj)) := by simpa using (show p ∈ [] ++ [_] from hp)
        subst e
        exact Nat.ne_of_gt (fl b hb)
    refine loop_comp (fun n s' => ∃ i τ acc its k H', Inv Y [(s2.heap.objs.size, ({ cls := .type "list", data := .seq its.toArray k } : Obj))] τ H' s' ∧ tn i s'.heap ∧ (∀ b ∈ fp, H' b = none) ∧ Vals acc its ∧ W i n τ acc H') ?_ m0
      ⟨0, _, [], [], 0, H2, I4, st4, fun b hb => (f2 b hb).1, .nil, w0⟩
    rintro n s5 ⟨i, τ, acc, its, k, H5, I5, st5, fr5, rv5, w5⟩
    rcases turn i n τ acc H5 w5 with ⟨stop, hz, q⟩ | ⟨go, hz, step⟩
    · refine thn (T.done Y rfl rfl rfl hc i _ s5 τ H5 (fun _ _ => False) I5 (stat fr5) st5 stop) fun r s6 ⟨hr, I6⟩ => ?_
      subst hr
      obtain ⟨eD, nD, _, _, _⟩ := I6.pin _ (List.mem_append_right _ (List.mem_singleton.mpr rfl))
      obtain ⟨m6, hm6, _⟩ := I6.loc
      have hC6 : H5 G.objs.size = none := I6.free
      have hok6 : HOk X.prog X.w H5 s6.heap := I6.hok
      have ub := I6.base
      have IX : Inv X pins σ (upd H5 s2.heap.objs.size (.lst acc)) s6 := by
        refine I2.call' (ch := fp) (s' := s6) I6.os ⟨fun b o e n' hb hx => ub.keep b o e n' hb hx, fun b o e n' hb hx => ?_, fun b o e n' hx => ?_, fun b o e hx => ?_, fun b xs e => ?_, fun b o u e => ?_, fun b ps e => ?_⟩
          (hok6.track nD ⟨hz, its, k, rv5, eD⟩) I6.bare fun b hb => ⟨(f2 b hb).2.2.2.1, (f2 b hb).2.1, (f2 b hb).2.2.2.2.1, (f2 b hb).2.2.2.2.2⟩
        · exact ub.slot b o e n' hb hx
        · rw [upd_ne (Nat.ne_of_lt (Heap.lt_size e))]
          exact ub.free b o e n' hx
        · exact ub.there b o e hx
        · have z := ub.tups b xs e
          rw [upd_ne (ne_of_none z nD)]; exact z
        · have z := ub.frzs b o u e
          rw [upd_ne (ne_of_none z nD)]; exact z
        · obtain ⟨more, z⟩ := ub.tbls b ps e
          exact ⟨more, by rw [upd_ne (ne_of_none z nD)]; exact z⟩
      have hCX : (upd H5 s2.heap.objs.size (.lst acc)) G.objs.size = none := by rw [upd_ne (Ne.symm hDC)]; exact hC6
      have fC : FpOk X pins (upd H5 s2.heap.objs.size (.lst acc)) G.objs.size := I2.fpOk hCle hCX
      obtain ⟨oC, esC, epC, gC, dC, rC⟩ := hm6
      have IP := IX.pinned (fp := [G.objs.size]) (fun b hb => by cases List.mem_singleton.mp hb; exact fC) (fun b hb => by cases List.mem_singleton.mp hb; exact ⟨oC, gC, fun v z => by rw [dC] at z; cases z⟩)
      refine wpAny_assign_Name (store_ok IP hN hix hxl (v := .ref s2.heap.objs.size) rfl (fun s7 I7 => ?_) hf)
      have pC := (I7.pin (G.objs.size, oC) (List.mem_append_right _ (List.mem_append_right _ (mem_pinsAt (List.mem_singleton.mpr rfl) gC)))).1
      refine ⟨m6, ⟨oC, esC, epC, pC, dC, rC⟩, fun h' hsb => ?_⟩
      have I8 : Inv X pins (σ.set ix (some (.ref s2.heap.objs.size))) (upd H5 s2.heap.objs.size (.lst acc)) { s7 with heap := h' } := I7.unpinned.turned (t' := s7.toks) (fun b o hb e => hsb.extBut b o hb e) fC.1 fC.2.1 fC.2.2.2.1 fC.2.2.2.2.1 fC.2.2.2.2.2
      exact ⟨_, _, I8, q _ nD⟩
    · refine thn (T.item Y rfl rfl rfl hc i _ s5 τ H5 (fun _ _ => False) I5 (stat fr5) st5 go) fun r s6 ⟨u, hr, h6⟩ => ?_
      subst hr
      refine thn h6 fun _ s7 ⟨x, H7, I7, r7, y7, st7, fr7⟩ => ?_
      have I7' := I7.pinned (stat fr7) (T.obj _ _ st7)
      refine thn (hg s2 H2 fp G.objs.size _ s7 τ H7 x u _ I7' r7 (step x H7 y7)) fun _ s8 ⟨τ8, H8, I8, q8⟩ => ?_
      refine thn (ht s2 H2 fp G.objs.size _ s8 τ8 H8 _ I8 q8) fun ok s9 ⟨H9, I9, q9⟩ => ?_
      -- the iterator's state behind the turn
      have back : ∀ {s' : Shared} {τ' : St} {H' : Hp}, Inv Y ([(s2.heap.objs.size, ({ cls := .type "list", data := .seq its.toArray k } : Obj))] ++ pinsAt fp s7.heap) τ' H' s' → (tn (i + 1) s'.heap ∧ ∀ b ∈ fp, H' b = none) := fun {s' τ' H'} Ib =>
        ⟨T.keep _ _ _ st7 fun b hb o e => (Ib.pin (b, o) (List.mem_append_right _ (List.mem_append_right _ (mem_pinsAt hb e)))).1, fun b hb => by
          obtain ⟨o, e, d⟩ := T.obj _ _ st7 b hb
          exact (Ib.pin (b, o) (List.mem_append_right _ (List.mem_append_right _ (mem_pinsAt hb e)))).2.1⟩
      cases ok with
      | false =>
        obtain ⟨m', hm', w'⟩ := q9
        obtain ⟨sb, fb⟩ := back I9
        exact ⟨m', hm', i + 1, τ8, acc, its, k, H9, I9.unpinned, sb, fb, rv5, w'⟩
      | true =>
        refine thn (he s2 H2 fp G.objs.size _ s9 τ8 H9 _ I9 q9) fun y s10 ⟨yv, H10, I10, r10, q10⟩ => ?_
        obtain ⟨m', hm', w'⟩ := q10
        obtain ⟨sb, fb⟩ := back I10
        obtain ⟨eD, nD, neD, nfD, _⟩ := I10.pin (s2.heap.objs.size, _) (List.mem_append_right _ (List.mem_append_left _ (List.mem_singleton.mpr rfl)))
        have hl : acc.length = its.length := rv5.length
        refine call_meets F.slot_list_append ⟨_, eD, rfl⟩ F.entry_list_append (F.args_list_append_2 _ _) (PySem.list_append s2.heap.objs.size its.toArray k y (by rw [List.size_toArray]; omega)) ⟨eD, ?_⟩
        have q := PySem.IsL.update eD (fun a : Array Value => a.push y)
        have Iu : Inv Y [] τ8 H10 s10 := I10.pins_of fun p hp => nomatch hp
        have It := Iu.turned (t' := s10.toks) (it := s2.heap.objs.size) (h' := s10.heap.update s2.heap.objs.size (Obj.mapSeq (fun a : Array Value => a.push y))) (fun b o hb e => (Heap.get?_update_other s10.heap _ (Ne.symm hb)).trans e) nD neD (.inr (Nat.le_refl _))
          (fun x c e z => by
            obtain ⟨v, ob, hob, _⟩ := I2.cell x c (clOf_lookup e)
            exact absurd (Heap.lt_size hob) (by rw [z]; exact Nat.lt_irrefl _)) (fun p hp => nomatch hp)
        have It' := It.pins_of (pins' := [(s2.heap.objs.size, ({ cls := .type "list", data := .seq (its ++ [y]).toArray (k + 1) } : Obj))]) fun p hp => by
          have e : p = _ := List.mem_singleton.mp hp
          subst e
          exact ⟨by simpa using q, nD, neD, nfD, fun v z => nomatch z⟩
        refine ⟨m', hm', i + 1, τ8, acc ++ [yv], its ++ [y], _, H10, It', T.keep _ _ _ sb fun b hb o e => (Heap.get?_update_other s10.heap _ (Nat.ne_of_gt (fl b hb))).trans e, fb, rv5.append (.cons r10 .nil), w'⟩
  exact codeAny_compStart_list loop (T.self _ 0 s4 _ _ st4 loop)
end
end L2
set_option Elab.async false
set_option linter.all false
set_option maxRecDepth 100000
set_option maxHeartbeats 4000000
namespace L2
open PySem PySem.Spec PyProof.Rows
section
variable {n : Nat} {caps : List Nat} {σ : St} {H : Hp} {g : TG} {tc : TT} {te : TE} {Qf : Addr → Hp → List V → Prop} {K : PySem.W.Frag} {a b : Addr} {xs ys : List V}
end
section
variable {X : Cx}
theorem call_minL (hc : X.calm = true) : CallR X (.builtin "min") (fun xs H Q => ∃ p ns, xs = [.ref p] ∧ SqL X.K H p (List.map V.int ns) ∧ 0 < ns.length ∧ ∀ M, M ∈ ns → (∀ a ∈ ns, M ≤ a) → Q (.int M) H) := by
  intro pins s σ H xs us Q I r h
  obtain ⟨p, ns, rfl, hp, n0, q⟩ := h
  obtain ⟨u, rfl, ru⟩ := vals1 r
  cases ru
  obtain ⟨its, r, pl, _⟩ := I.list hp
  obtain ⟨ys, rfl, e⟩ := int_items r
  have hl : ys.length = ns.length := by rw [← e, List.length_map]
  have li : s.heap.IsList p (intItems ys.toArray) := by
    have := pl.isList
    unfold intItems
    rw [List.map_toArray]
    exact this
  refine min_intList (I.ok.hd hc) li (by simp; omega) fun v h' tk hv k => ?_
  obtain ⟨t, rfl⟩ := intItems_at hv
  obtain ⟨b1, b2⟩ := argBest_lt (numAt ys.toArray) (ys.toArray.size - 1)
  have nat' : ∀ j (h : j < ns.length), numAt ys.toArray j = ns[j] := fun j h => by
    rw [numAt_eq]
    simp [e, h]
  have sz : ys.toArray.size = ns.length := by simp [hl]
  rw [sz] at b1 b2 ⊢
  refine ⟨.int _, H, I.kept k, ⟨_, rfl⟩, q _ ?_ fun a ha => ?_⟩
  · rw [nat' _ (by omega)]; exact List.getElem_mem _
  · obtain ⟨j, hj, rfl⟩ := List.mem_iff_getElem.mp ha
    have := b2 j (by omega)
    rw [nat' j hj] at this
    exact this
end
end L2
namespace Sm
open PySem L2 SmSort
end Sm
set_option Elab.async false
set_option linter.all false
namespace Sm
open PySem L2 SmSort
theorem iteA {c : Bool} {T2 A : Prop} {D : Ends} {σ : St} {H : Hp} (Pre : St → Hp → Prop) (k : ∀ σ H, Pre σ H → D.nx σ H) (h1 : c = true → (∀ σ H, Pre σ H → D.nx σ H) → T2) (h2 : c = false → Pre σ H) : if c = true then T2 else (if false = true then A else tNext D σ H) := by
  cases c with
  | true => exact h1 rfl k
  | false => exact k _ _ (h2 rfl)
end Sm
set_option Elab.async false
set_option linter.all false
set_option maxRecDepth 100000
set_option maxHeartbeats 400000
namespace SmSet
open PySem
theorem below_go {xs : Array Nat} {j : Nat} (so : xs.toList.Pairwise (· < ·)) : ∀ (fuel lo hi : Nat), hi - lo ≤ fuel → lo ≤ hi → hi ≤ xs.size → (∀ i (h : i < xs.size), i < lo → xs[i] < j) → (∀ i (h : i < xs.size), hi ≤ i → j ≤ xs[i]) →
    SetTable.below.go xs j fuel lo hi ≤ xs.size ∧ (∀ i (h : i < xs.size), i < SetTable.below.go xs j fuel lo hi → xs[i] < j) ∧ ∀ i (h : i < xs.size), SetTable.below.go xs j fuel lo hi ≤ i → j ≤ xs[i]
  | 0, lo, hi, hf, h1, h2, hl, hh => by
    have : lo = hi := by omega
    subst this
    unfold SetTable.below.go
    exact ⟨h2, hl, hh⟩
  | fuel + 1, lo, hi, hf, h1, h2, hl, hh => by
    unfold SetTable.below.go
    have mono : ∀ a b (ha : a < xs.size) (hb : b < xs.size), a < b → xs[a] < xs[b] := fun a b ha hb ab => by
      have := List.pairwise_iff_getElem.mp so a b (by simpa using ha) (by simpa using hb) ab
      simpa using this
    by_cases c : lo < hi
    · rw [if_pos c]
      dsimp only
      have hm : (lo + hi) / 2 < xs.size := by omega
      have e : xs.getD ((lo + hi) / 2) j = xs[(lo + hi) / 2] := by simp [Array.getD, hm]
      rw [e]
      by_cases d : xs[(lo + hi) / 2] < j
      · rw [if_pos d]
        refine below_go so fuel _ _ (by omega) (by omega) h2 (fun i h hi' => ?_) hh
        by_cases q : i = (lo + hi) / 2
        · subst q; exact d
        · exact Nat.lt_trans (mono i ((lo + hi) / 2) h hm (by omega)) d
      · rw [if_neg d]
        refine below_go so fuel _ _ (by omega) (by omega) (by omega) hl (fun i h hi' => ?_)
        by_cases q : i = (lo + hi) / 2
        · subst q; omega
        · have := mono ((lo + hi) / 2) i hm h (by omega)
          omega
    · rw [if_neg c]
      have : lo = hi := by omega
      subst this
      exact ⟨h2, hl, hh⟩
theorem below_spec {xs : Array Nat} {j : Nat} (so : xs.toList.Pairwise (· < ·)) : SetTable.below xs j ≤ xs.size ∧ (∀ i (h : i < xs.size), i < SetTable.below xs j → xs[i] < j) ∧ ∀ i (h : i < xs.size), SetTable.below xs j ≤ i → j ≤ xs[i] :=
  below_go so _ _ _ (by omega) (by omega) (Nat.le_refl _) (fun _ _ h => absurd h (Nat.not_lt_zero _)) (fun i h hi => absurd h (by omega))
theorem below_at {xs : Array Nat} {j i : Nat} (so : xs.toList.Pairwise (· < ·)) (h : xs[i]? = some j) : SetTable.below xs j = i := by
  obtain ⟨hi, e⟩ := Array.getElem?_eq_some_iff.mp h
  obtain ⟨b1, b2, b3⟩ := below_spec (j := j) so
  rcases Nat.lt_trichotomy (SetTable.below xs j) i with c | c | c
  · have hb : SetTable.below xs j < xs.size := by omega
    have := b3 _ hb (Nat.le_refl _)
    have m := List.pairwise_iff_getElem.mp so (SetTable.below xs j) i (by simpa using hb) (by simpa using hi) c
    simp only [Array.getElem_toList] at m
    omega
  · exact c
  · have := b2 i hi c
    omega
theorem slot_live {t : SetTable} {j i : Nat} (so : t.place.toList.Pairwise (· < ·)) (h : t.place[i]? = some j) : t.slot j = .live i := by
  unfold SetTable.slot
  dsimp only
  rw [below_at so h, h]
  simp
theorem slot_empty {t : SetTable} {j : Nat} (nd : t.dummies = #[]) (h : j ∉ t.place.toList) : t.slot j = .empty := by
  unfold SetTable.slot
  dsimp only
  rw [if_neg, if_neg]
  · rw [nd]
    unfold SetTable.has
    simp
  · intro c
    have : t.place[SetTable.below t.place j]? = some j := by simpa using c
    exact h (by simpa using Array.mem_of_getElem? this)
def adv (m : Nat) (p : SetTable.Probe) : SetTable.Probe :=
  if p.more > 0 then { p with j := p.j + 1, more := p.more - 1 } else
  { p with j := (SetTable.leap m p.i p.perturb).1, more := SetTable.runEnd m (SetTable.leap m p.i p.perturb).1 - (SetTable.leap m p.i p.perturb).1, i := (SetTable.leap m p.i p.perturb).1, perturb := (SetTable.leap m p.i p.perturb).2 }
theorem advance_eq (t : SetTable) (p : SetTable.Probe) : t.advance p = adv t.mask p := rfl
def run (m i u : Nat) : SetTable.Probe := { j := i, more := SetTable.runEnd m i - i, i, perturb := u, dummy := none }
def start (m : Nat) (h : Int) : SetTable.Probe := run m (SetTable.bits h % (m + 1)) (SetTable.bits h)
def ad (m : Nat) : Nat → SetTable.Probe → SetTable.Probe
  | 0, p => p
  | n + 1, p => ad m n (adv m p)
theorem ad_succ (m n : Nat) (p : SetTable.Probe) : ad m (n + 1) p = adv m (ad m n p) := by
  induction n generalizing p with
  | zero => rfl
  | succ n ih => exact ih (adv m p)
theorem adv_dummy {m : Nat} {p : SetTable.Probe} : (adv m p).dummy = p.dummy := by unfold adv; split <;> rfl
theorem ad_dummy {m : Nat} : ∀ {n : Nat} {p : SetTable.Probe}, (ad m n p).dummy = p.dummy
  | 0, _ => rfl
  | n + 1, p => (ad_dummy (n := n)).trans adv_dummy
def at' (m : Nat) (h : Int) (n : Nat) : Nat := (ad m n (start m h)).j
def runs (m : Nat) : Nat → Nat → Nat → Nat × Nat
  | 0, i, u => (i, u)
  | r + 1, i, u => runs m r ((i * 5 + 1 + u / 32) % (m + 1)) (u / 32)
theorem runs_add {m : Nat} : ∀ (a b i u : Nat), runs m (a + b) i u = runs m b (runs m a i u).1 (runs m a i u).2
  | 0, b, i, u => by rw [Nat.zero_add]; rfl
  | a + 1, b, i, u => by rw [Nat.succ_add]; exact runs_add a b _ _
theorem runs_perturb {m : Nat} : ∀ (r i u : Nat), (runs m r i u).2 = u / 32 ^ r
  | 0, i, u => by simp [runs]
  | r + 1, i, u => by
    show (runs m r _ (u / 32)).2 = _
    rw [runs_perturb r, Nat.div_div_eq_div_mul, Nat.pow_succ, Nat.mul_comm]
theorem runs_small {m : Nat} : ∀ (r i u : Nat), i ≤ m → (runs m r i u).1 ≤ m
  | 0, i, u, h => h
  | r + 1, i, u, h => runs_small r _ _ (Nat.lt_succ_iff.mp (Nat.mod_lt _ (by omega)))
def f5 (m : Nat) : Nat → Nat → Nat
  | 0, i => i
  | s + 1, i => f5 m s ((i * 5 + 1) % (m + 1))
theorem runs_f5 {m : Nat} : ∀ (s i : Nat), (runs m s i 0).1 = f5 m s i
  | 0, i => rfl
  | s + 1, i => by
    show (runs m s ((i * 5 + 1 + 0 / 32) % (m + 1)) (0 / 32)).1 = f5 m s ((i * 5 + 1) % (m + 1))
    rw [Nat.zero_div, Nat.add_zero]
    exact runs_f5 s _
theorem f5_add {m : Nat} : ∀ (a b i : Nat), f5 m (a + b) i = f5 m b (f5 m a i)
  | 0, b, i => by rw [Nat.zero_add]; rfl
  | a + 1, b, i => by rw [Nat.succ_add]; exact f5_add a b _
def bitsOf (m : Nat) : Nat → Nat → Nat → Nat
  | 0, _, acc => acc
  | s + 1, i, acc => bitsOf m s ((i * 5 + 1) % (m + 1)) (acc ||| (2 ^ i))
theorem bitsOf_spec {m j : Nat} : ∀ (s i acc : Nat), (bitsOf m s i acc).testBit j = true → acc.testBit j = true ∨ ∃ a, a < s ∧ f5 m a i = j
  | 0, i, acc, h => .inl h
  | s + 1, i, acc, h => by
    rcases bitsOf_spec s _ _ h with h | ⟨a, ha, e⟩
    · rw [Nat.testBit_or, Bool.or_eq_true] at h
      rcases h with h | h
      · exact .inl h
      · rw [Nat.testBit_two_pow] at h
        exact .inr ⟨0, by omega, of_decide_eq_true h⟩
    · exact .inr ⟨a + 1, by omega, e⟩
def Mask (m : Nat) : Prop := m = 7 ∨ m = 31 ∨ m = 127 ∨ m = 511 ∨ m = 2047 ∨ m = 8191
theorem cover0 {m : Nat} (hm : Mask m) : f5 m (m + 1) 0 = 0 ∧ ∀ j, j ≤ m → ∃ a, a ≤ m ∧ f5 m a 0 = j := by
  have key : f5 m (m + 1) 0 = 0 ∧ bitsOf m (m + 1) 0 0 = 2 ^ (m + 1) - 1 := by
    rcases hm with rfl | rfl | rfl | rfl | rfl | rfl <;> constructor <;> decide +kernel
  refine ⟨key.1, fun j hj => ?_⟩
  have : (bitsOf m (m + 1) 0 0).testBit j = true := by
    rw [key.2, Nat.testBit_two_pow_sub_one]
    exact decide_eq_true (by omega)
  rcases bitsOf_spec _ _ _ this with h | ⟨a, ha, e⟩
  · simp at h
  · exact ⟨a, by omega, e⟩
theorem cover {m i j : Nat} (hm : Mask m) (hi : i ≤ m) (hj : j ≤ m) : ∃ s, s ≤ m ∧ f5 m s i = j := by
  obtain ⟨z, all⟩ := cover0 hm
  obtain ⟨a, ha, rfl⟩ := all i hi
  obtain ⟨b, hb, rfl⟩ := all j hj
  by_cases c : a ≤ b
  · exact ⟨b - a, by omega, by rw [← f5_add]; congr 1; omega⟩
  · refine ⟨b + (m + 1) - a, by omega, ?_⟩
    rw [← f5_add, show a + (b + (m + 1) - a) = (m + 1) + b from by omega, f5_add, z]
theorem reach {m i u j : Nat} (hm : Mask m) (hi : i ≤ m) (hu : u < 2 ^ 64) (hj : j ≤ m) : ∃ r, r ≤ m + 13 ∧ (runs m r i u).1 = j := by
  have p0 : (runs m 13 i u).2 = 0 := by
    rw [runs_perturb]
    exact Nat.div_eq_of_lt (Nat.lt_of_lt_of_le hu (by decide))
  obtain ⟨s, hs, e⟩ := cover hm (runs_small 13 i u hi) hj
  refine ⟨13 + s, by omega, ?_⟩
  rw [runs_add, p0, runs_f5, e]
end SmSet
set_option Elab.async false
set_option linter.all false
set_option maxRecDepth 100000
set_option maxHeartbeats 400000
namespace SmSet
open PySem
structure Tab (t : SetTable) (es : Array (Int × Value)) : Prop where
  mask : Mask t.mask
  nd : t.dummies = #[]
  so : t.place.toList.Pairwise (· < ·)
  sz : t.place.size = es.size
  small : ∀ j ∈ t.place.toList, j ≤ t.mask
  light : es.size * 5 < t.mask * 3
  way : ∀ i (h : i < es.size), ∃ n, t.place[i]? = some (at' t.mask es[i].1 n) ∧ ∀ n', n' < n → at' t.mask es[i].1 n' ∈ t.place.toList
theorem Tab.room {t : SetTable} {es : Array (Int × Value)} (T : Tab t es) : es.size ≤ t.mask := by have := T.light; omega
theorem Tab.fits {t : SetTable} {es : Array (Int × Value)} (T : Tab t es) : t.fits es.size = true := by
  unfold SetTable.fits SetTable.fill
  have := T.room
  rw [T.sz, T.nd]
  simp
  exact this
theorem Tab.odd {t : SetTable} {es : Array (Int × Value)} (T : Tab t es) : t.gaveWay = false := by
  unfold SetTable.gaveWay
  rcases T.mask with h | h | h | h | h | h <;> rw [h] <;> rfl
theorem at_index {t : SetTable} {j : Nat} (h : j ∈ t.place.toList) : ∃ i : Nat, t.place[i]? = some j := by
  obtain ⟨i, hi, e⟩ := List.getElem_of_mem h
  exact ⟨i, by rw [← Array.getElem?_toList, List.getElem?_eq_getElem hi, e]⟩
theorem probe_go {t : SetTable} {es : Array (Int × Value)} (T : Tab t es) {hashAt : Nat → Int} {h : Int} {N : Nat} (hN : ¬ at' t.mask h N ∈ t.place.toList) (hall : ∀ n, n < N → at' t.mask h n ∈ t.place.toList) :
    ∀ (d k fuel : Nat), N - k = d → k ≤ N → d < fuel →
      (∃ n i, k ≤ n ∧ n < N ∧ t.place[i]? = some (at' t.mask h n) ∧ hashAt i = h ∧ (∀ n', k ≤ n' → n' < n → ∀ i', t.place[i']? = some (at' t.mask h n') → hashAt i' ≠ h) ∧ SetTable.probe.go t hashAt h fuel (ad t.mask k (start t.mask h)) = some (.candidate (at' t.mask h n) i (ad t.mask (n + 1) (start t.mask h)))) ∨
      ((∀ n', k ≤ n' → n' < N → ∀ i', t.place[i']? = some (at' t.mask h n') → hashAt i' ≠ h) ∧ SetTable.probe.go t hashAt h fuel (ad t.mask k (start t.mask h)) = some (.empty (at' t.mask h N) none))
  | d, k, 0, e, hk, hf => absurd hf (Nat.not_lt_zero _)
  | 0, k, fuel + 1, e, hk, hf => by
    have : k = N := by omega
    subst this
    refine .inr ⟨fun n' h1 h2 => absurd h1 (by omega), ?_⟩
    unfold SetTable.probe.go
    rw [show (ad t.mask k (start t.mask h)).j = at' t.mask h k from rfl, slot_empty T.nd hN]
    dsimp only
    rw [ad_dummy]
    rfl
  | d + 1, k, fuel + 1, e, hk, hf => by
    obtain ⟨i, hi⟩ := at_index (hall k (by omega))
    by_cases c : hashAt i = h
    · refine .inl ⟨k, i, Nat.le_refl _, by omega, hi, c, fun n' h1 h2 => absurd h1 (by omega), ?_⟩
      unfold SetTable.probe.go
      rw [show (ad t.mask k (start t.mask h)).j = at' t.mask h k from rfl, slot_live T.so hi]
      dsimp only
      rw [if_pos (by rw [c]; simp), advance_eq, ← ad_succ]
    · have step : SetTable.probe.go t hashAt h (fuel + 1) (ad t.mask k (start t.mask h)) = SetTable.probe.go t hashAt h fuel (ad t.mask (k + 1) (start t.mask h)) := by
        conv => lhs; unfold SetTable.probe.go
        rw [show (ad t.mask k (start t.mask h)).j = at' t.mask h k from rfl, slot_live T.so hi]
        dsimp only
        rw [if_neg (by simpa using c), advance_eq, ← ad_succ]
      have here : ∀ i', t.place[i']? = some (at' t.mask h k) → hashAt i' ≠ h := fun i' hi' => by
        have := (below_at T.so hi').symm.trans (below_at T.so hi)
        rw [this]; exact c
      rw [step]
      rcases probe_go T hN hall d (k + 1) fuel (by omega) (by omega) (by omega) with ⟨n, i2, a1, a2, a3, a4, a5, a6⟩ | ⟨a1, a2⟩
      · refine .inl ⟨n, i2, by omega, a2, a3, a4, fun n' h1 h2 i' hi' => ?_, a6⟩
        by_cases q : n' = k
        · subst q; exact here i' hi'
        · exact a5 n' (by omega) h2 i' hi'
      · refine .inr ⟨fun n' h1 h2 i' hi' => ?_, a2⟩
        by_cases q : n' = k
        · subst q; exact here i' hi'
        · exact a1 n' (by omega) h2 i' hi'
end SmSet
set_option Elab.async false
set_option linter.all false
set_option maxRecDepth 100000
set_option maxHeartbeats 400000
namespace SmSet
open PySem
section
variable {prog : Program} {w : World} {K : Type} [DecidableEq K] {knd : HeapKind prog w K} {A : Around} {E : Value → Shared → Prop} {s : Shared} {a : Addr}
def Keys (knd : HeapKind prog w K) (h : Heap) (es : Array (Int × Value)) (ks : Nat → K) : Prop := ∀ i (hi : i < es.size), ∃ b, es[i] = (knd.hash (ks i), .ref b) ∧ knd.is h (ks i) b
def Calm (knd : HeapKind prog w K) (A : Around) (s : Shared) : Prop := ∀ (k : K) (b : Addr), knd.is s.heap k b → ∀ (E : Value → Shared → Prop) (Q : Bool → Shared → Prop), Q false s → wpAny (model prog w) A (ofAClassStatement 8 (.ref b)) Q E s
theorem not_seen {k : K} {c : Addr} (hk : knd.is s.heap k c) (cl : Calm knd A s) : ∀ (ys : List Value), (∀ y ∈ ys, ∃ k b, y = .ref b ∧ knd.is s.heap k b) → ∀ {Q : Bool → Shared → Prop}, Q false s → wpAny (model prog w) A (searchCouldBeSeen (.ref c) ys) Q E s := by
  intro ys hy Q q
  unfold searchCouldBeSeen
  refine wpAny_bind ?_
  refine wpAny_forIn_list _ (fun rest r s' => r.1 = none ∧ s' = s ∧ ∀ y ∈ rest, ∃ k b, y = .ref b ∧ knd.is s.heap k b) _ ?_ ?_ _ _ ⟨rfl, rfl, hy⟩
  · rintro y rest r s' ⟨hr, rfl, hall⟩
    obtain ⟨k2, b, rfl, hb⟩ := hall _ List.mem_cons_self
    have next : ∀ u ∈ rest, ∃ k b, u = Value.ref b ∧ knd.is s'.heap k b := fun u hu => hall u (List.mem_cons_of_mem _ hu)
    dsimp only
    split
    · exact wpAny_pure ⟨rfl, rfl, next⟩
    · refine wpAny_bind (knd.quiet hk ?_)
      simp only [Bool.not_true, Bool.false_eq_true, if_false]
      refine wpAny_bind (knd.quiet hb ?_)
      simp only [Bool.not_true, Bool.false_eq_true, if_false]
      refine wpAny_bind (cl _ _ hk _ _ ?_)
      simp only [Bool.false_eq_true, if_false]
      refine wpAny_bind (cl _ _ hb _ _ ?_)
      simp only [Bool.false_eq_true, if_false]
      exact wpAny_pure ⟨rfl, rfl, next⟩
  · rintro ⟨r1, r2⟩ s' ⟨hr, rfl, _⟩
    simp only at hr
    subst hr
    exact wpAny_pure q
theorem search {o : Obj} {es : Array (Int × Value)} {ep : Nat} {t : SetTable} {ks : Nat → K} {kx : K} {c : Addr} {adding : Bool} {Q : SetFound → Shared → Prop} (hr : knd.room A) (ho : s.heap.get? a = some o) (hd : o.data = .set es ep t) (T : Tab t es) (ke : Keys knd s.heap es ks) (hx : knd.is s.heap kx c) (cl : Calm knd A s)
    (qt : ∀ r : Option Nat, (r = none → adding = true) → (∃ i, i < es.size ∧ ks i = kx) → Q (.there r) s) {N : Nat} (hN : ¬ at' t.mask (knd.hash kx) N ∈ t.place.toList) (hall : ∀ n, n < N → at' t.mask (knd.hash kx) n ∈ t.place.toList) (hNb : N ≤ 10 * (t.mask + 13))
    (qf : (∀ i, i < es.size → ks i ≠ kx) → Q (.free (at' t.mask (knd.hash kx) N) false) s) :
    ∀ (fuel k : Nat) (st : Option SetTable.Probe), N - k < fuel → k ≤ N → st.getD (t.probeStart (knd.hash kx)) = ad t.mask k (start t.mask (knd.hash kx)) → (∀ n', n' < k → ∀ i', t.place[i']? = some (at' t.mask (knd.hash kx) n') → ks i' ≠ kx) →
      wpAny (model prog w) A (setSearchFrom a (.ref c) (knd.hash kx) adding fuel st) Q E s
  | 0, k, st, hf, _, _, _ => absurd hf (Nat.not_lt_zero _)
  | fuel + 1, k, st, hf, hk, hst, prev => by
    unfold setSearchFrom
    refine wpAny_bind (wpAny_setState_of ho hd T.fits ?_)
    dsimp only
    rw [T.odd, hst]
    simp only [Bool.false_eq_true, if_false]
    unfold SetTable.probe
    rcases probe_go T hN hall (hashAt := fun i => ((es[i]?).map (·.1)).getD 0) _ k (10 * SetTable.turns t.mask) rfl hk (by unfold SetTable.turns; omega) with ⟨n, i, a1, a2, a3, a4, a5, a6⟩ | ⟨a1, a2⟩
    · generalize hp : SetTable.probe.go t _ (knd.hash kx) (10 * SetTable.turns t.mask) (ad t.mask k (start t.mask (knd.hash kx))) = pr
      have e := hp.symm.trans a6
      subst e
      have hi : i < es.size := by
        have := (Array.getElem?_eq_some_iff.mp a3).1
        rw [T.sz] at this; exact this
      obtain ⟨b, eb, hb⟩ := ke i hi
      have eg : es[i]? = some (knd.hash (ks i), .ref b) := by rw [← eb]; exact Array.getElem?_eq_getElem hi
      dsimp only
      rw [eg]
      dsimp only
      have sl := slot_live T.so a3
      have mem : t.sameMemory t.moves t.mask = some true := by simp [SetTable.sameMemory]
      have again := search (adding := adding) hr ho hd T ke hx cl qt hN hall hNb qf fuel (n + 1) (some (ad t.mask (n + 1) (start t.mask (knd.hash kx)))) (by omega) (by omega) rfl
      have more : ks i ≠ kx → ∀ n', n' < n + 1 → ∀ i', t.place[i']? = some (at' t.mask (knd.hash kx) n') → ks i' ≠ kx := fun ne n' hn i' hi' => by
        by_cases q : n' < k
        · exact prev n' q i' hi'
        by_cases q2 : n' = n
        · subst q2
          have := (below_at T.so hi').symm.trans (below_at T.so a3)
          rw [this]; exact ne
        · intro z
          have hl : i' < es.size := by
            have := (Array.getElem?_eq_some_iff.mp hi').1
            rw [T.sz] at this; exact this
          obtain ⟨b', eb', _⟩ := ke i' hl
          exact a5 n' (by omega) (by omega) i' hi' (by simp [eb', hl, z])
      have stored : ∀ y ∈ List.map (fun x => x.snd) (Array.filter (fun x => x.fst == knd.hash kx) es).toList, ∃ k b, y = Value.ref b ∧ knd.is s.heap k b := fun y hy => by
        obtain ⟨e, he, rfl⟩ := List.mem_map.mp hy
        have he : e ∈ es := by
          have : e ∈ es ∧ e.fst = knd.hash kx := by simpa using he
          exact this.1
        obtain ⟨j, hj, rfl⟩ := Array.getElem_of_mem he
        obtain ⟨b', eb', hb'⟩ := ke j hj
        exact ⟨_, b', by rw [eb'], hb'⟩
      split
      · refine wpAny_bind (not_seen hx cl _ stored ?_)
        simp only [Bool.false_eq_true, if_false]
        refine wpAny_bind (wpAny_holding (knd.eqBool hr hb hx ?_))
        refine wpAny_bind (wpAny_setState_of ho hd T.fits ?_)
        dsimp only
        rw [mem]
        dsimp only
        rw [if_pos (show (true = true) from rfl), sl]
        dsimp only
        rw [eg]
        dsimp only
        by_cases q : ks i = kx
        · rw [decide_eq_true q]
          cases adding with
          | true => exact wpAny_pure (qt _ (fun _ => rfl) ⟨i, hi, q⟩)
          | false =>
            simp only [Bool.false_and, Bool.false_eq_true, if_false]
            refine wpAny_bind (wpAny_isSame_ref_self ?_)
            exact wpAny_pure (qt _ (fun z => by cases z) ⟨i, hi, q⟩)
        · rw [decide_eq_false q]
          simp only [Bool.and_false, Bool.false_eq_true, if_false]
          refine wpAny_bind (wpAny_isSame_ref_self ?_)
          exact again (more q)
      · refine wpAny_bind (wpAny_holding (knd.eqBool hr hb hx ?_))
        refine wpAny_bind (wpAny_setState_of ho hd T.fits ?_)
        dsimp only
        rw [mem]
        dsimp only
        rw [if_pos (show (true = true) from rfl), sl]
        dsimp only
        rw [eg]
        dsimp only
        by_cases q : ks i = kx
        · rw [decide_eq_true q]
          cases adding with
          | true => exact wpAny_pure (qt _ (fun _ => rfl) ⟨i, hi, q⟩)
          | false =>
            simp only [Bool.false_and, Bool.false_eq_true, if_false]
            refine wpAny_bind (wpAny_isSame_ref_self ?_)
            exact wpAny_pure (qt _ (fun z => by cases z) ⟨i, hi, q⟩)
        · rw [decide_eq_false q]
          simp only [Bool.and_false, Bool.false_eq_true, if_false]
          refine wpAny_bind (wpAny_isSame_ref_self ?_)
          exact again (more q)
    · generalize hp : SetTable.probe.go t _ (knd.hash kx) (10 * SetTable.turns t.mask) (ad t.mask k (start t.mask (knd.hash kx))) = pr
      have e := hp.symm.trans a2
      subst e
      dsimp only
      refine wpAny_pure (qf fun i hi z => ?_)
      obtain ⟨m, hm, al⟩ := T.way i hi
      obtain ⟨b, eb, _⟩ := ke i hi
      rw [eb] at hm al
      dsimp only at hm al
      rw [z] at hm al
      have mN : m < N := Classical.byContradiction fun c => by
        by_cases q : N = m
        · subst q
          exact hN (by simpa using Array.mem_of_getElem? hm)
        · exact hN (al N (by omega))
      by_cases q : m < k
      · exact prev m q i hm z
      · refine a1 m (by omega) mN i hm ?_
        simp [eb, hi, z]
end
end SmSet
set_option Elab.async false
set_option linter.all false
set_option maxRecDepth 100000
set_option maxHeartbeats 400000
namespace Sm
open PySem L2 SmSort
def whenOf (ms : List M4) (j : Int) : Int := ((ms[j.toNat]?).map (·.t)).getD 0
def whens (ms : List M4) (k : Nat) : List Int := (numsTo ms k ms.length).map (whenOf ms)
section
variable {n k w : Nat} {ms : List M4} {day : Int}
end
end Sm
set_option Elab.async false
set_option linter.all false
set_option maxRecDepth 100000
set_option maxHeartbeats 400000
namespace L2
open PySem PySem.Spec PyProof.Rows
section
variable {K : PySem.W.Frag} {a : Addr} {xs : List V} {n : Nat} {caps : List Nat} {g : TG} {tc : TT} {te : TE} {σ : St} {H : Hp} {Qf : Addr → Hp → List V → Prop}
end
end L2
namespace Sm
open PySem L2 SmSort
abbrev Mk := Nat → Nat
end Sm
set_option Elab.async false
set_option linter.all false
set_option maxRecDepth 100000
set_option maxHeartbeats 400000
namespace Sm
open PySem L2 SmSort
structure L4 where
  s : Nat
  w : Nat
  a : Int
  z : Int
end Sm
namespace Sm
open PySem L2 SmSort
end Sm
set_option Elab.async false
set_option linter.all false
set_option maxRecDepth 100000
set_option maxHeartbeats 400000
namespace L2
open PySem PySem.Spec PyProof.Rows
theorem op_inD {X : Cx} (hu : X.A.units + 64 < cLine) : OpR X (compareOp .In) (fun x y H Q => ∃ a o, y = .ref a ∧ DGet H a x o ∧ Q (.bl o.isSome) H) := by
  intro pins s σ H x y v u Q I rx ry h
  obtain ⟨a, o, rfl, g, q⟩ := h
  cases ry
  exact d_in (by omega) I g rx fun s' I' => ⟨.bl _, H, I', rfl, q⟩
theorem op_notInD {X : Cx} (hu : X.A.units + 64 < cLine) : OpR X (compareOp .NotIn) (fun x y H Q => ∃ a o, y = .ref a ∧ DGet H a x o ∧ Q (.bl (!o.isSome)) H) := by
  intro pins s σ H x y v u Q I rx ry h
  obtain ⟨a, o, rfl, g, q⟩ := h
  cases ry
  exact d_notIn (by omega) I g rx fun s' I' => ⟨.bl _, H, I', rfl, q⟩
end L2
namespace Sm
open PySem L2 SmSort
def kvV (kv : List (Int × Int)) : List (Key × V) := kv.map fun p => (Sum.inl p.1, V.int p.2)
theorem valV_any {kv : List (Int × Int)} {w : Int} : (valV (kvV kv) (Sum.inl w)).isSome = kv.any fun p => decide (p.1 = w) := by
  unfold valV kvV
  rw [Bool.eq_iff_iff, Option.isSome_map, List.find?_isSome, List.any_eq_true]
  constructor
  · rintro ⟨p, hp, e⟩
    obtain ⟨q, hq, rfl⟩ := List.mem_map.mp hp
    have e1 := of_decide_eq_true e
    exact ⟨q, hq, decide_eq_true (Sum.inl.inj e1)⟩
  · rintro ⟨q, hq, e⟩
    exact ⟨_, List.mem_map.mpr ⟨q, hq, rfl⟩, decide_eq_true (congrArg Sum.inl (of_decide_eq_true e))⟩
theorem Same.but {H H' : Hp} {x : Addr} (s : Same H H') : But x H H' := fun b u _ e => s b u e
end Sm
set_option Elab.async false
set_option linter.all false
set_option maxRecDepth 100000
set_option maxHeartbeats 400000
namespace Sm
open PySem L2 SmSort
section
variable {C : Addr} {H H' : Hp} {t : Tr} {rooms : List Int} {tr tm : Addr} {ps : List (Addr × M4)} {n0 : Nat}
end
theorem But.free {x c : Addr} {H H' : Hp} (b : But x H H') (n : c ≠ x) (h : H' c = none) : H c = none := by
  cases z : H c with
  | none => rfl
  | some u => have := b _ _ n z; rw [h] at this; cases this
end Sm
set_option Elab.async false
set_option linter.all false
set_option maxRecDepth 100000
set_option maxHeartbeats 400000
namespace Sm
open PySem L2 SmSort
theorem nodup_len : ∀ {xs ys : List Int}, xs.Nodup → (∀ x ∈ xs, x ∈ ys) → xs.length ≤ ys.length
  | [], _, _, _ => Nat.zero_le _
  | x :: xs, ys, nd, h => by
    have nd' := List.nodup_cons.mp nd
    have hm := h x (.head _)
    have := nodup_len (xs := xs) (ys := ys.erase x) nd'.2 fun z hz => (List.mem_erase_of_ne (fun e => nd'.1 (by rw [← e]; exact hz))).mpr (h z (.tail _ hz))
    rw [List.length_erase_of_mem hm] at this
    have : 0 < ys.length := List.length_pos_of_mem hm
    show xs.length + 1 ≤ _
    omega
theorem map_some {α β : Type} {f : α → β} {o o' : Option α} {a : α} (e : o.map f = o'.map f) (h : o' = some a) : ∃ b, o = some b ∧ f b = f a := by
  subst h
  cases o with
  | none => cases e
  | some b => exact ⟨b, rfl, Option.some.inj e⟩
end Sm
set_option Elab.async false
set_option linter.all false
set_option maxRecDepth 100000
set_option maxHeartbeats 400000
namespace Sm
open PySem L2 SmSort
open Classical in
def nV (ks : List Nat) : List V := ks.map fun k => V.int ((k : Nat) : Int)
theorem inV_nV (n : Nat) (ks : List Nat) : inV (V.int (n : Int)) (nV ks) = decide (n ∈ ks) := by
  induction ks with
  | nil => rfl
  | cons k ks ih =>
    show (eqV (V.int (k : Int)) (V.int (n : Int)) || inV (V.int (n : Int)) (nV ks)) = _
    rw [ih, eqV_int]
    by_cases h : k = n
    · subst h; simp
    · have h1 : ¬ (k : Int) = n := by omega
      have h2 : ¬ n = k := fun z => h z.symm
      simp [h1, h2]
end Sm
set_option Elab.async false
set_option linter.all false
set_option maxRecDepth 100000
set_option maxHeartbeats 400000
namespace L2
open PySem PySem.Spec PyProof.Rows
section
variable {X : Cx} {pos : Pos}
end
end L2
namespace Sm
open PySem L2 SmSort
end Sm
namespace Sm
open PySem L2 SmSort
theorem Purse.refs {H : Hp} {p l : Addr} {xs : List V} (pu : Purse H p) (h : H l = some (.lst xs)) (r : ∀ x ∈ xs, ∃ a, x = V.ref a) : l ≠ p := by
  rintro rfl
  obtain ⟨a, b, c, e⟩ := pu
  rw [e] at h
  cases h
  obtain ⟨x, hx⟩ := r _ (.head _)
  cases hx
end Sm
namespace Sm
open PySem L2 SmSort
section
variable {C : Addr} {H0 H : Hp} {t u : Tr} {rooms : List Int} {tr tm : Addr} {ps : List (Addr × M4)} {n0 n1 : Nat}
end
end Sm
namespace Sm
open PySem L2 SmSort
end Sm
set_option Elab.async false
set_option linter.all false
set_option maxRecDepth 100000
set_option maxHeartbeats 400000
namespace Sm
open PySem L2 SmSort
def flip (a : Nat) : Nat := if a % 2 = 0 then a + 1 else a - 1
theorem or_one (n : Nat) : n ||| 1 = if n % 2 = 0 then n + 1 else n := by
  have e : ∀ k : Nat, 2 * k ||| 1 = 2 * k + 1 := fun k => by
    have := Nat.two_pow_add_eq_or_of_lt (i := 1) (b := 1) (by decide) k
    simpa using this.symm
  split
  · rename_i h
    have : n = 2 * (n / 2) := by omega
    rw [this, e]
  · rename_i h
    have : n = 2 * (n / 2) + 1 := by omega
    rw [this, ← e, Nat.or_assoc, Nat.or_self]
theorem xor_one (n : Nat) : Builtin.bitXor (n : Int) 1 = ((flip n : Nat) : Int) := by
  have a1 : Builtin.bitAnd (n : Int) 1 = ((n % 2 : Nat) : Int) := by
    unfold Builtin.bitAnd
    rw [decide_eq_true (by omega : (0 : Int) ≤ (n : Int))]
    show ((n &&& 1 : Nat) : Int) = _
    rw [Nat.and_one_is_mod]
  have a2 : Builtin.bitOr (n : Int) 1 = ((n ||| 1 : Nat) : Int) := by
    unfold Builtin.bitOr Builtin.bitAnd Builtin.bitNot
    rw [decide_eq_false (by omega : ¬ (0 : Int) ≤ -(n : Int) - 1)]
    show -(-((((-(-(n : Int) - 1) - 1).toNat ||| (-(-(1 : Int) - 1) - 1).toNat : Nat) : Int)) - 1) - 1 = _
    rw [show (-(-(n : Int) - 1) - 1).toNat = n by omega, show (-(-(1 : Int) - 1) - 1).toNat = 1 by omega]
    omega
  unfold Builtin.bitXor
  rw [a1, a2, or_one]
  unfold flip
  split <;> omega
theorem flip_flip (a : Nat) : flip (flip a) = a := by unfold flip; split <;> split <;> omega
theorem flip_ne (a : Nat) : flip a ≠ a := by unfold flip; split <;> omega
theorem flip_lt {a m : Nat} (h : a < 2 * m) : flip a < 2 * m := by unfold flip; split <;> omega
end Sm
set_option Elab.async false
set_option linter.all false
set_option maxRecDepth 100000
set_option maxHeartbeats 400000
namespace L2
open PySem PySem.Spec PyProof.Rows
section
variable {prog : Program} {w : World} {A : Around} {E : Value → Shared → Prop} {s : Shared}
theorem hash_none {Q : Int → Shared → Prop} (h : Q 4238894112 { s with toks := s.toks + 1 }) : wpAny (model prog w) A (pyHash .none) Q E s := by
  unfold pyHash
  have hv : [Value.none].any Value.onHeap = false := rfl
  refine wpAny_bind ?_
  rw [cRoomFor, if_neg (by rw [hv]; exact Bool.false_ne_true)]; refine wpAny_pure ?_
  refine wpAny_bind (wpAny_specialOf (typeIs_none s) F.slot_NoneType_hash.lookup ?_)
  show wpAny _ _ (if (some (Value.builtin "NoneType.__hash__") == some Value.none) = true then _ else _) Q E s
  rw [if_neg (by rw [beq_builtin_none]; exact Bool.false_ne_true)]
  refine wpAny_bind (wpAny_specialOf (typeIs_none s) F.slot_NoneType_hash.lookup ?_)
  show wpAny _ _ (callSpecialIfBoundUnlessNone? .none "__hash__" _ >>= _) Q E s
  refine wpAny_bind (wpAny_callSpecialIfBoundUnlessNone?_slot (typeIs_none s) F.slot_NoneType_hash
    (wpAny_call_entry F.slot_NoneType_hash (typeIs_none s) F.entry_NoneType_hash
      (show wpAny _ _ (do ret (← mkInt 4238894112)) _ _ s from wpAny_ret_mkInt ?_) (F.args_NoneType_hash_1 _)))
  show wpAny _ _ (if (decide (-(2 : Int) ^ 63 ≤ 4238894112) && decide ((4238894112 : Int) < 2 ^ 63)) = true then _ else _) Q E _
  rw [if_pos (by decide)]
  exact wpAny_pure h
end
def isO : Option Key → Value → Bool
  | none, .none => true
  | none, _ => false
  | some k, v => keyIs k v
theorem isO_none {v : Value} (h : isO none v = true) : v = .none := by
  cases v <;> first | rfl | cases h
def optKind (prog : Program) (w : World) : PySem.KeyKind prog w (Option Key) where
  is := isO
  hash := fun | none => 4238894112 | some k => keyH w k
  inj := fun v a b ha hb => by
    cases a with
    | none =>
      cases isO_none ha
      cases b with
      | none => rfl
      | some k => rcases keyIs_shape hb with ⟨_, _, _, e⟩ | ⟨_, _, _, e⟩ <;> cases e
    | some k =>
      cases b with
      | none =>
        cases isO_none hb
        rcases keyIs_shape ha with ⟨_, _, _, e⟩ | ⟨_, _, _, e⟩ <;> cases e
      | some k' => exact congrArg some ((mixKind prog w).inj v k k' ha hb)
  byValue := fun k v h => by
    cases k with
    | none => cases isO_none h; rfl
    | some k => exact (mixKind prog w).byValue k v h
  pyHash := fun {A E s k v Q} hv h => by
    cases k with
    | none => cases isO_none hv; exact hash_none h
    | some k => exact (mixKind prog w).pyHash hv h
  eqBool := fun {A E s a b u v Q} hu hv h => by
    cases a with
    | none =>
      cases isO_none hu
      cases b with
      | none => cases isO_none hv; exact SeqAt.EqAt.same _ _ _ _ _ h
      | some k =>
        have h' : Q false s := by simpa using h
        rcases keyIs_shape hv with ⟨i, t, _, rfl⟩ | ⟨x, t, _, rfl⟩
        · exact SeqAt.EqAt.none_int i t _ _ _ _ h'
        · exact SeqAt.EqAt.none_str x t _ _ _ _ h'
    | some k =>
      cases b with
      | none =>
        cases isO_none hv
        have h' : Q false s := by simpa using h
        rcases keyIs_shape hu with ⟨i, t, _, rfl⟩ | ⟨x, t, _, rfl⟩
        · exact SeqAt.EqAt.int_none i t _ _ _ _ h'
        · exact SeqAt.EqAt.str_none x t _ _ _ _ h'
      | some k' =>
        have e : decide (some k = some k') = decide (k = k') := by simp
        rw [e] at h
        exact (mixKind prog w).eqBool hu hv h
  «strs» := fun k x t v h => by
    cases k with
    | none => cases isO_none h
    | some k => exact (mixKind prog w).strs k x t v h
theorem dk_opt {P : Program} {w : World} {h : Heap} {a : Addr} {vs : List (Key × Value)} (d : h.DictOf (mixKind P w) a vs) : h.MapOf (optKind P w) a (fun | none => none | some k => valueAt vs k) := by
  obtain ⟨o, es, ep, ho, hc, hd, hk, hf⟩ := d.mapOf
  refine ⟨o, es, ep, ho, hc, hd, fun e he => ?_, fun k => ?_⟩
  · obtain ⟨k, h1, h2⟩ := hk e he
    exact ⟨some k, h1, h2⟩
  · cases k with
    | none =>
      show (es.find? fun e => isO none e.key).map (·.val) = none
      have : (es.find? fun e => isO none e.key) = none := by
        rw [Array.find?_eq_none]
        intro e he z
        obtain ⟨k, h1, _⟩ := hk e he
        have e1 := isO_none (by simpa using z)
        rw [e1] at h1
        rcases keyIs_shape h1 with ⟨_, _, _, q⟩ | ⟨_, _, _, q⟩ <;> cases q
      rw [this]; rfl
    | some k => exact hf k
section
variable {X : Cx}
theorem op_notInN : OpR X (compareOp .NotIn) (fun x y H Q => ∃ a kvs, x = .non ∧ y = .ref a ∧ H a = some (.dK kvs) ∧ Q (.bl true) H) := by
  intro pins s σ H x y v u Q I rx ry h
  obtain ⟨a, kvs, rfl, rfl, e, q⟩ := h
  cases rx; cases ry
  obtain ⟨z, hd, vs, rel, dd⟩ := dk_rd I.hok (.inl e)
  exact wpAny_notIn_of (knd := optKind X.prog X.w) (k := none) rfl hd (dk_opt dd) ⟨.bl _, H, I.tok _, rfl, q⟩
theorem op_notInO (hu : X.A.units + 64 < cLine) : OpR X (compareOp .NotIn) (fun x y H Q => ∃ a kvs o, y = .ref a ∧ H a = some (.dK kvs) ∧ x = oV o ∧ Q (.bl (match o with | none => true | some i => !(valV kvs (Sum.inl i)).isSome)) H) := by
  intro pins s σ H x y v u Q I rx ry h
  obtain ⟨a, kvs, o, rfl, e, rfl, q⟩ := h
  cases o with
  | none => exact op_notInN pins s σ H _ _ v u Q I rx ry ⟨a, kvs, rfl, rfl, e, q⟩
  | some i => exact op_notInD hu pins s σ H _ _ v u Q I rx ry ⟨a, _, rfl, DGet.k (k := Sum.inl i) e, q⟩
end
end L2
set_option Elab.async false
set_option linter.all false
set_option maxRecDepth 100000
set_option maxHeartbeats 400000
namespace Sm
open PySem L2 SmSort
structure Tie where
  h : Nat
  t : Nat
  m : Int
def endsOf (ts : List Tie) : List Int := ts.flatMap fun x => [(x.t : Int), (x.h : Int)]
def arcsTo (ts : List Tie) (p : Nat) : Nat → List Int
  | 0 => []
  | i + 1 => arcsTo ts p i ++ (match ts[i]? with
    | some x => (if x.h = p then [((2 * i : Nat) : Int)] else []) ++ (if x.t = p then [((2 * i + 1 : Nat) : Int)] else [])
    | none => [])
def hd (ts : List Tie) (a : Nat) : Nat := match ts[a / 2]? with
  | some x => if a % 2 = 0 then x.t else x.h
  | none => 0
def tl (ts : List Tie) (a : Nat) : Nat := hd ts (flip a)
theorem endsOf_len (ts : List Tie) : (endsOf ts).length = 2 * ts.length := by
  induction ts with
  | nil => rfl
  | cons x ts ih =>
    have : endsOf (x :: ts) = [(x.t : Int), (x.h : Int)] ++ endsOf ts := rfl
    rw [this, List.length_append, ih, List.length_cons (a := x)]; show 2 + _ = _; omega
theorem endsO_at : ∀ {ts : List Tie} {a : Nat}, a < 2 * ts.length → (endsOf ts)[a]? = some (hd ts a : Int)
  | [], a, h => by simp at h
  | x :: ts, a, h => by
    have e : endsOf (x :: ts) = [(x.t : Int), (x.h : Int)] ++ endsOf ts := rfl
    rw [e]
    match a with
    | 0 => rfl
    | 1 => rfl
    | a + 2 =>
      have h2 : a < 2 * ts.length := by rw [List.length_cons] at h; omega
      have : ([(x.t : Int), (x.h : Int)] ++ endsOf ts)[a + 2]? = (endsOf ts)[a]? := rfl
      rw [this, endsO_at h2]
      unfold hd
      have e1 : (a + 2) / 2 = a / 2 + 1 := by omega
      have e2 : (a + 2) % 2 = a % 2 := by omega
      rw [e1, e2]; rfl
theorem hd_even {ts : List Tie} {k : Nat} {x : Tie} (h : ts[k]? = some x) : hd ts (2 * k) = x.t ∧ hd ts (2 * k + 1) = x.h := by
  unfold hd
  rw [show 2 * k / 2 = k by omega, show (2 * k + 1) / 2 = k by omega, h]
  exact ⟨by dsimp only; rw [if_pos (by omega)], by dsimp only; rw [if_neg (by omega)]⟩
theorem tl_even {ts : List Tie} {k : Nat} {x : Tie} (h : ts[k]? = some x) : tl ts (2 * k) = x.h ∧ tl ts (2 * k + 1) = x.t := by
  unfold tl
  have f1 : flip (2 * k) = 2 * k + 1 := by unfold flip; rw [if_pos (by omega)]
  have f2 : flip (2 * k + 1) = 2 * k := by unfold flip; rw [if_neg (by omega)]; omega
  rw [f1, f2]
  exact ⟨(hd_even h).2, (hd_even h).1⟩
theorem arc_split {ts : List Tie} {a : Nat} (h : a < 2 * ts.length) : ∃ k x, ts[k]? = some x ∧ (a = 2 * k ∨ a = 2 * k + 1) := by
  have : a / 2 < ts.length := by omega
  exact ⟨a / 2, _, List.getElem?_eq_getElem this, by omega⟩
theorem arcsTo_mem {ts : List Tie} {p : Nat} : ∀ {i : Nat} {z : Int}, i ≤ ts.length → (z ∈ arcsTo ts p i ↔ ∃ a : Nat, z = (a : Int) ∧ a < 2 * i ∧ tl ts a = p)
  | 0, z, _ => by
    constructor
    · intro h; cases h
    · rintro ⟨a, _, h, _⟩; omega
  | i + 1, z, hi => by
    obtain ⟨x, hx⟩ : ∃ x, ts[i]? = some x := ⟨_, List.getElem?_eq_getElem (by omega)⟩
    have e : arcsTo ts p (i + 1) = arcsTo ts p i ++ ((if x.h = p then [((2 * i : Nat) : Int)] else []) ++ (if x.t = p then [((2 * i + 1 : Nat) : Int)] else [])) := by
      conv => lhs; unfold arcsTo
      rw [hx]
    obtain ⟨t1, t2⟩ := tl_even hx
    rw [e, List.mem_append, arcsTo_mem (by omega), List.mem_append]
    constructor
    · rintro (⟨a, rfl, h1, h2⟩ | h | h)
      · exact ⟨a, rfl, by omega, h2⟩
      · split at h
        · rename_i c; rw [List.mem_singleton.mp h]; exact ⟨2 * i, rfl, by omega, by rw [t1]; exact c⟩
        · cases h
      · split at h
        · rename_i c; rw [List.mem_singleton.mp h]; exact ⟨2 * i + 1, rfl, by omega, by rw [t2]; exact c⟩
        · cases h
    · rintro ⟨a, rfl, h1, h2⟩
      by_cases c1 : a < 2 * i
      · exact .inl ⟨a, rfl, c1, h2⟩
      · rcases (by omega : a = 2 * i ∨ a = 2 * i + 1) with rfl | rfl
        · rw [t1] at h2
          exact .inr (.inl (by rw [if_pos h2]; exact .head _))
        · rw [t2] at h2
          exact .inr (.inr (by rw [if_pos h2]; exact .head _))
def at0 (sp : List Int) (a : Nat) : Int := sp[a]?.getD 0
structure Sound (ts : List Tie) (sp : List Int) : Prop where
  len : sp.length = 2 * ts.length
  pos : ∀ a, a < 2 * ts.length → 0 ≤ at0 sp a
  sum : ∀ (k : Nat) (x : Tie), ts[k]? = some x → at0 sp (2 * k) + at0 sp (2 * k + 1) = x.m
def bump (sp : List Int) (a : Nat) (m : Int) : List Int := (sp.set a (at0 sp a - m)).set (flip a) (at0 (sp.set a (at0 sp a - m)) (flip a) + m)
theorem at_set {sp : List Int} {a b : Nat} {v : Int} (h : a < sp.length) : at0 (sp.set a v) b = if b = a then v else at0 sp b := by
  unfold at0
  rw [List.getElem?_set]
  by_cases c : a = b
  · subst c; rw [if_pos rfl, if_pos h, if_pos rfl]; rfl
  · rw [if_neg c, if_neg (fun z => c z.symm)]
theorem bump_len {sp : List Int} {a : Nat} {m : Int} : (bump sp a m).length = sp.length := by unfold bump; rw [List.length_set, List.length_set]
theorem bump_at {sp : List Int} {n a b : Nat} {m : Int} (l : sp.length = 2 * n) (h : a < 2 * n) : at0 (bump sp a m) b = if b = a then at0 sp a - m else if b = flip a then at0 sp (flip a) + m else at0 sp b := by
  unfold bump
  have hf := flip_lt h
  have ne := flip_ne a
  rw [at_set (by rw [List.length_set, l]; exact hf), at_set (by rw [l]; exact h), at_set (by rw [l]; exact h), if_neg ne]
  by_cases c1 : b = flip a
  · rw [if_pos c1, if_neg (fun z => ne (by rw [← c1, z])), if_pos c1]
  · rw [if_neg c1, if_neg c1]
def net (ts : List Tie) (sp : List Int) (p : Nat) : Nat → Int
  | 0 => 0
  | i + 1 => net ts sp p i + (match ts[i]? with
    | some x => at0 sp (2 * i + 1) * ((if x.t = p then 1 else 0) - (if x.h = p then 1 else 0))
    | none => 0)
theorem net_bump {ts : List Tie} {sp : List Int} {a p : Nat} {m : Int} (l : sp.length = 2 * ts.length) (h : a < 2 * ts.length) : ∀ i, i ≤ ts.length → net ts (bump sp a m) p i = net ts sp p i + (if a / 2 < i then m * ((if hd ts a = p then 1 else 0) - (if tl ts a = p then 1 else 0)) else 0)
  | 0, _ => by show (0 : Int) = 0 + _; rw [if_neg (by omega)]; rfl
  | i + 1, hi => by
    obtain ⟨x, hx⟩ : ∃ x, ts[i]? = some x := ⟨_, List.getElem?_eq_getElem (by omega)⟩
    have ih := net_bump (m := m) (p := p) l h i (by omega)
    have e : ∀ sp', net ts sp' p (i + 1) = net ts sp' p i + at0 sp' (2 * i + 1) * ((if x.t = p then 1 else 0) - (if x.h = p then 1 else 0)) := fun sp' => by
      show net ts sp' p i + (match ts[i]? with | some x => _ | none => _) = _
      rw [hx]
    obtain ⟨h1, h2⟩ := hd_even hx
    obtain ⟨t1, t2⟩ := tl_even hx
    rw [e, e, ih, bump_at l h]
    generalize net ts sp p i = N
    by_cases c1 : 2 * i + 1 = a
    · subst c1
      rw [if_neg (show ¬ (2 * i + 1) / 2 < i by omega), if_pos (show 2 * i + 1 = 2 * i + 1 from rfl), if_pos (show (2 * i + 1) / 2 < i + 1 by omega), h2, t2]
      generalize (if x.t = p then (1 : Int) else 0) = u
      generalize (if x.h = p then (1 : Int) else 0) = v
      have : m * (v - u) = - (m * (u - v)) := by rw [← Int.mul_neg]; congr 1; omega
      rw [Int.sub_mul, this]; omega
    · rw [if_neg c1]
      by_cases c2 : 2 * i + 1 = flip a
      · have ea : a = 2 * i := by have := congrArg flip c2; rw [flip_flip] at this; rw [← this]; unfold flip; rw [if_neg (by omega)]; omega
        subst ea
        have : flip (2 * i) = 2 * i + 1 := c2.symm
        rw [if_pos c2, this, if_neg (show ¬ 2 * i / 2 < i by omega), if_pos (show 2 * i / 2 < i + 1 by omega), h1, t1, Int.add_mul]
        generalize (if x.t = p then (1 : Int) else 0) - (if x.h = p then (1 : Int) else 0) = u
        omega
      · rw [if_neg c2]
        have n1 : a ≠ 2 * i := fun z => c2 (by rw [z]; unfold flip; rw [if_pos (by omega)])
        by_cases c3 : a / 2 < i
        · rw [if_pos c3, if_pos (show a / 2 < i + 1 by omega)]; omega
        · rw [if_neg c3, if_neg (show ¬ a / 2 < i + 1 by omega)]; omega
theorem net_bump' {ts : List Tie} {sp : List Int} {a p : Nat} {m : Int} (l : sp.length = 2 * ts.length) (h : a < 2 * ts.length) : net ts (bump sp a m) p ts.length = net ts sp p ts.length + m * ((if hd ts a = p then 1 else 0) - (if tl ts a = p then 1 else 0)) := by
  rw [net_bump l h _ (Nat.le_refl _), if_pos (by omega)]
def bumpAll (sp : List Int) (w : List Nat) (m : Int) : List Int := w.foldl (fun sp a => bump sp a m) sp
theorem bumpAll_snoc {sp : List Int} {w : List Nat} {a : Nat} {m : Int} : bumpAll sp (w ++ [a]) m = bump (bumpAll sp w m) a m := by unfold bumpAll; rw [List.foldl_append]; rfl
theorem bumpAll_len {sp : List Int} {m : Int} : ∀ {w : List Nat}, (bumpAll sp w m).length = sp.length := by
  intro w
  induction w generalizing sp with
  | nil => rfl
  | cons a w ih => show (bumpAll (bump sp a m) w m).length = _; rw [ih, bump_len]
inductive BackW (ts : List Tie) (g : Nat) : List Nat → Nat → Prop where
  | nil : BackW ts g [] g
  | snoc {w : List Nat} {a : Nat} : BackW ts g w (hd ts a) → BackW ts g (w ++ [a]) (tl ts a)
theorem net_way {ts : List Tie} {sp : List Int} {g c p : Nat} {w : List Nat} {m : Int} (l : sp.length = 2 * ts.length) (b : BackW ts g w c) (hw : ∀ a ∈ w, a < 2 * ts.length) : net ts (bumpAll sp w m) p ts.length = net ts sp p ts.length + m * ((if g = p then 1 else 0) - (if c = p then 1 else 0)) := by
  induction b with
  | nil => show net ts sp p _ = _; rw [Int.sub_self, Int.mul_zero, Int.add_zero]
  | @snoc w a b ih =>
    have ih := ih fun x hx => hw x (List.mem_append_left _ hx)
    rw [bumpAll_snoc, net_bump' (by rw [bumpAll_len]; exact l) (hw a (List.mem_append_right _ (.head _))), ih]
    generalize (if g = p then (1 : Int) else 0) = u
    generalize (if hd ts a = p then (1 : Int) else 0) = v
    generalize (if tl ts a = p then (1 : Int) else 0) = z
    have : m * (u - z) = m * (u - v) + m * (v - z) := by rw [← Int.mul_add]; congr 1; omega
    rw [this]; omega
theorem bump_low {sp : List Int} {n a b : Nat} {m : Int} (l : sp.length = 2 * n) (h : a < 2 * n) (m0 : 0 ≤ m) : at0 sp b - (if b = a then m else 0) ≤ at0 (bump sp a m) b := by
  rw [bump_at l h]
  by_cases c : b = a
  · subst c; rw [if_pos rfl, if_pos rfl]; exact Int.le_refl _
  · rw [if_neg c, if_neg c]
    split
    · rename_i c2; rw [← c2]; omega
    · omega
theorem bumpAll_low {n : Nat} {m : Int} (m0 : 0 ≤ m) : ∀ {w : List Nat} {sp : List Int} {b : Nat}, sp.length = 2 * n → (∀ a ∈ w, a < 2 * n) → w.Nodup → at0 sp b - (if b ∈ w then m else 0) ≤ at0 (bumpAll sp w m) b
  | [], sp, b, _, _, _ => by show at0 sp b - _ ≤ at0 sp b; rw [if_neg (by simp)]; omega
  | a :: w, sp, b, l, hw, nd => by
    have nd := List.nodup_cons.mp nd
    have h1 := bumpAll_low (w := w) (sp := bump sp a m) (b := b) m0 (by rw [bump_len]; exact l) (fun x hx => hw x (.tail _ hx)) nd.2
    have h2 := bump_low (b := b) l (hw a (.head _)) m0
    have e : bumpAll sp (a :: w) m = bumpAll (bump sp a m) w m := rfl
    rw [e]
    by_cases c : b = a
    · subst c
      rw [if_pos (List.mem_cons_self ..)]
      rw [if_pos rfl] at h2
      rw [if_neg nd.1] at h1
      omega
    · rw [if_neg c] at h2
      by_cases d : b ∈ w
      · rw [if_pos (List.mem_cons_of_mem _ d)]; rw [if_pos d] at h1; omega
      · rw [if_neg (by simp [c, d])]; rw [if_neg d] at h1; omega
theorem bump_sum {sp : List Int} {n a k : Nat} {m : Int} (l : sp.length = 2 * n) (h : a < 2 * n) : at0 (bump sp a m) (2 * k) + at0 (bump sp a m) (2 * k + 1) = at0 sp (2 * k) + at0 sp (2 * k + 1) := by
  rw [bump_at l h, bump_at l h]
  have f1 : flip (2 * k) = 2 * k + 1 := by unfold flip; rw [if_pos (by omega)]
  have f2 : flip (2 * k + 1) = 2 * k := by unfold flip; rw [if_neg (by omega)]; omega
  by_cases c1 : 2 * k = a
  · subst c1
    rw [if_pos rfl, if_neg (show ¬ 2 * k + 1 = 2 * k by omega), f1, if_pos rfl]; omega
  · by_cases c2 : 2 * k + 1 = a
    · subst c2
      rw [if_neg c1, f2, if_pos rfl, if_pos rfl]; omega
    · rw [if_neg c1, if_neg c2, if_neg (fun z => c2 (by rw [← flip_flip a, ← z, f1])), if_neg (fun z => c1 (by rw [← flip_flip a, ← z, f2]))]
theorem bumpAll_sum {n k : Nat} {m : Int} : ∀ {w : List Nat} {sp : List Int}, sp.length = 2 * n → (∀ a ∈ w, a < 2 * n) → at0 (bumpAll sp w m) (2 * k) + at0 (bumpAll sp w m) (2 * k + 1) = at0 sp (2 * k) + at0 sp (2 * k + 1)
  | [], _, _, _ => rfl
  | a :: w, sp, l, hw => by
    have e : bumpAll sp (a :: w) m = bumpAll (bump sp a m) w m := rfl
    rw [e, bumpAll_sum (by rw [bump_len]; exact l) (fun x hx => hw x (.tail _ hx)), bump_sum l (hw a (.head _))]
theorem Sound.way {ts : List Tie} {sp : List Int} {w : List Nat} {m : Int} (s : Sound ts sp) (m0 : 0 ≤ m) (hw : ∀ a ∈ w, a < 2 * ts.length ∧ m ≤ at0 sp a) (nd : w.Nodup) : Sound ts (bumpAll sp w m) := by
  refine ⟨by rw [bumpAll_len]; exact s.len, fun b hb => ?_, fun k x hx => ?_⟩
  · have := bumpAll_low (b := b) m0 s.len (fun a ha => (hw a ha).1) nd
    by_cases c : b ∈ w
    · rw [if_pos c] at this; have := (hw b c).2; omega
    · rw [if_neg c] at this; have := s.pos b hb; omega
  · rw [bumpAll_sum s.len fun a ha => (hw a ha).1]; exact s.sum k x hx
def cap (ts : List Tie) : Nat → Int
  | 0 => 0
  | i + 1 => cap ts i + (match ts[i]? with | some x => x.m | none => 0)
theorem net_cap {ts : List Tie} {sp : List Int} (s : Sound ts sp) (p : Nat) : ∀ i, i ≤ ts.length → net ts sp p i ≤ cap ts i
  | 0, _ => Int.le_refl _
  | i + 1, hi => by
    obtain ⟨x, hx⟩ : ∃ x, ts[i]? = some x := ⟨_, List.getElem?_eq_getElem (by omega)⟩
    have ih := net_cap s p i (by omega)
    show net ts sp p i + (match ts[i]? with | some x => _ | none => _) ≤ cap ts i + (match ts[i]? with | some x => _ | none => _)
    rw [hx]
    dsimp only
    have h1 := s.pos (2 * i) (by omega)
    have h2 := s.pos (2 * i + 1) (by omega)
    have h3 := s.sum i x hx
    generalize at0 sp (2 * i + 1) = y at h2 h3 ⊢
    have : y * ((if x.t = p then 1 else 0) - (if x.h = p then 1 else 0)) ≤ y := by
      split <;> split <;> simp <;> omega
    omega
structure TreeOk (ts : List Tie) (sp : List Int) (n src : Nat) (tree : List (Nat × Option Nat)) : Prop where
  root : tree[0]? = some (src, none)
  nod : (tree.map (·.1)).Nodup
  ins : ∀ x ∈ tree, x.1 < n
  arc : ∀ (i : Nat) x, tree[i]? = some x → 0 < i → ∃ a, x.2 = some a ∧ a < 2 * ts.length ∧ hd ts a = x.1 ∧ 0 < at0 sp a ∧ ∃ j y, j < i ∧ tree[j]? = some y ∧ y.1 = tl ts a
def ClosedAt (ts : List Tie) (sp : List Int) (pts : List Nat) (p : Nat) : Prop := ∀ a, a < 2 * ts.length → tl ts a = p → 0 < at0 sp a → hd ts a ∈ pts
def treeK (tree : List (Nat × Option Nat)) : List (Key × V) := tree.map fun x => (Sum.inl (x.1 : Int), oV (x.2.map fun a => (a : Int)))
end Sm
set_option Elab.async false
set_option linter.all false
set_option maxRecDepth 100000
set_option maxHeartbeats 400000
namespace Sm
open PySem L2 SmSort
structure SRaw (C : Addr) (H : Hp) (x dx lA lE lS : Addr) (as : List Addr) (src : Int) (f : Nat → List Int) (es sp : List Int) : Prop where
  ins : H x = some (.ins C dx [("source", .int src), ("arcs", .ref lA), ("ends", .ref lE), ("spare", .ref lS)])
  arcs : H lA = some (.lst (as.map V.ref))
  rws : ∀ (p : Nat) (a : Addr), as[p]? = some a → H a = some (.lst ((f p).map V.int))
  ends : H lE = some (.lst (es.map V.int))
  spr : H lS = some (.lst (sp.map V.int))
  nd : (lA :: lE :: lS :: as).Nodup
structure SAt (C : Addr) (H : Hp) (x dx lA lE lS : Addr) (as : List Addr) (src : Int) (n : Nat) (ts : List Tie) (sp : List Int) : Prop where
  raw : SRaw C H x dx lA lE lS as src (fun p => arcsTo ts p ts.length) (endsOf ts) sp
  len : as.length = n
  tin : ∀ t ∈ ts, t.h < n ∧ t.t < n
  snd : Sound ts sp
  sz : n ≤ 3000 ∧ ts.length ≤ 3000
def KeptM (M : List Addr) (H H' : Hp) : Prop := ∀ b u, b ∉ M → H b = some u → H' b = some u
theorem Same.keptM {M : List Addr} {H H' : Hp} (s : Same H H') : KeptM M H H' := fun b u _ e => s b u e
theorem KeptM.trans {M : List Addr} {H H1 H2 : Hp} (a : KeptM M H H1) (b : KeptM M H1 H2) : KeptM M H H2 := fun c u n e => b c u n (a c u n e)
theorem KeptM.refl (M : List Addr) (H : Hp) : KeptM M H H := fun _ _ _ e => e
theorem KeptM.upd {M : List Addr} {H : Hp} {p : Addr} {o : HO} (h : p ∈ M) : KeptM M H (upd H p o) := fun b u n e => by rw [upd_ne (fun z => n (by rw [z]; exact h))]; exact e
theorem KeptM.sub {M N : List Addr} {H H' : Hp} (a : KeptM M H H') (s : ∀ x ∈ M, x ∈ N) : KeptM N H H' := fun b u n e => a b u (fun z => n (s b z)) e
section
variable {C : Addr} {H H' : Hp} {x dx lA lE lS : Addr} {as : List Addr} {src : Int} {f : Nat → List Int} {es sp : List Int} {n : Nat} {ts : List Tie}
theorem SRaw.same (a : SRaw C H x dx lA lE lS as src f es sp) (s : Same H H') : SRaw C H' x dx lA lE lS as src f es sp :=
  ⟨s _ _ a.ins, s _ _ a.arcs, fun p r hr => s _ _ (a.rws p r hr), s _ _ a.ends, s _ _ a.spr, a.nd⟩
theorem SAt.same (a : SAt C H x dx lA lE lS as src n ts sp) (s : Same H H') : SAt C H' x dx lA lE lS as src n ts sp := ⟨a.raw.same s, a.len, a.tin, a.snd, a.sz⟩
theorem SRaw.nx (a : SRaw C H x dx lA lE lS as src f es sp) : x ∉ lA :: lE :: lS :: as := by
  intro h
  have hx := a.ins
  rcases List.mem_cons.mp h with rfl | h
  · rw [a.arcs] at hx; cases hx
  rcases List.mem_cons.mp h with rfl | h
  · rw [a.ends] at hx; cases hx
  rcases List.mem_cons.mp h with rfl | h
  · rw [a.spr] at hx; cases hx
  obtain ⟨i, hi⟩ := List.getElem?_of_mem h
  rw [a.rws i _ hi] at hx; cases hx
theorem SRaw.ns (a : SRaw C H x dx lA lE lS as src f es sp) : lA ≠ lE ∧ lA ≠ lS ∧ lA ∉ as ∧ lE ≠ lS ∧ lE ∉ as ∧ lS ∉ as ∧ as.Nodup := by
  have h1 := List.nodup_cons.mp a.nd
  have h2 := List.nodup_cons.mp h1.2
  have h3 := List.nodup_cons.mp h2.2
  simp only [List.mem_cons, not_or] at h1 h2
  exact ⟨h1.1.1, h1.1.2.1, h1.1.2.2, h2.1.1, h2.1.2, h3.1, h3.2⟩
theorem nod_at34 {α : Type} {as : List α} (nd : as.Nodup) {i j : Nat} {a : α} (hi : as[i]? = some a) (hj : as[j]? = some a) : i = j := by
  obtain ⟨h1, e1⟩ := List.getElem?_eq_some_iff.mp hi
  obtain ⟨h2, e2⟩ := List.getElem?_eq_some_iff.mp hj
  have pw := List.pairwise_iff_getElem.mp nd
  rcases Nat.lt_trichotomy i j with c | c | c
  · exact absurd (e1.trans e2.symm) (pw i j h1 h2 c)
  · exact c
  · exact absurd (e2.trans e1.symm) (pw j i h2 h1 c)
theorem mem_ne {a b : Addr} {l : List Addr} (ha : a ∉ l) (hb : b ∈ l) : a ≠ b := fun e => ha (by rw [e]; exact hb)
theorem SRaw.app (a : SRaw C H x dx lA lE lS as src f es sp) {h : Nat} {l : Addr} {z : Int} (hl : as[h]? = some l) : SRaw C (upd H l (.lst ((f h).map V.int ++ [V.int z]))) x dx lA lE lS as src (fun p => f p ++ if h = p then [z] else []) es sp := by
  obtain ⟨n1, n2, n3, n4, n5, n6, n7⟩ := a.ns
  have m := List.mem_of_getElem? hl
  have nx := a.nx
  simp only [List.mem_cons, not_or] at nx
  refine ⟨by rw [upd_ne (mem_ne nx.2.2.2 m)]; exact a.ins, by rw [upd_ne (mem_ne n3 m)]; exact a.arcs, fun p b hb => ?_, by rw [upd_ne (mem_ne n5 m)]; exact a.ends, by rw [upd_ne (mem_ne n6 m)]; exact a.spr, a.nd⟩
  by_cases c : h = p
  · subst c
    obtain rfl : l = b := by rw [hl] at hb; exact Option.some.inj hb
    rw [upd_same]; show _ = some (HO.lst (List.map V.int (f h ++ if h = h then [z] else []))); rw [if_pos rfl, List.map_append]; rfl
  · have : b ≠ l := fun e => c (by
      subst e
      exact nod_at34 n7 hl hb)
    rw [upd_ne this]; show _ = some (HO.lst (List.map V.int (f p ++ if h = p then [z] else []))); rw [if_neg c, List.append_nil]; exact a.rws p b hb
theorem SRaw.setE (a : SRaw C H x dx lA lE lS as src f es sp) {es' : List Int} : SRaw C (upd H lE (.lst (es'.map V.int))) x dx lA lE lS as src f es' sp := by
  obtain ⟨n1, n2, n3, n4, n5, n6, n7⟩ := a.ns
  have nx := a.nx
  simp only [List.mem_cons, not_or] at nx
  exact ⟨by rw [upd_ne nx.2.1]; exact a.ins, by rw [upd_ne n1]; exact a.arcs, fun p b hb => by rw [upd_ne (Ne.symm (mem_ne n5 (List.mem_of_getElem? hb)))]; exact a.rws p b hb, upd_same, by rw [upd_ne (Ne.symm n4)]; exact a.spr, a.nd⟩
theorem SRaw.setS (a : SRaw C H x dx lA lE lS as src f es sp) {sp' : List Int} : SRaw C (upd H lS (.lst (sp'.map V.int))) x dx lA lE lS as src f es sp' := by
  obtain ⟨n1, n2, n3, n4, n5, n6, n7⟩ := a.ns
  have nx := a.nx
  simp only [List.mem_cons, not_or] at nx
  exact ⟨by rw [upd_ne nx.2.2.1]; exact a.ins, by rw [upd_ne n2]; exact a.arcs, fun p b hb => by rw [upd_ne (Ne.symm (mem_ne n6 (List.mem_of_getElem? hb)))]; exact a.rws p b hb, by rw [upd_ne n4]; exact a.ends, upd_same, a.nd⟩
theorem SRaw.setX (a : SRaw C H x dx lA lE lS as src f es sp) {src' : Int} : SRaw C (upd H x (.ins C dx [("source", .int src'), ("arcs", .ref lA), ("ends", .ref lE), ("spare", .ref lS)])) x dx lA lE lS as src' f es sp := by
  have nx := a.nx
  simp only [List.mem_cons, not_or] at nx
  exact ⟨upd_same, by rw [upd_ne (Ne.symm nx.1)]; exact a.arcs, fun p b hb => by rw [upd_ne (Ne.symm (mem_ne nx.2.2.2 (List.mem_of_getElem? hb)))]; exact a.rws p b hb, by rw [upd_ne (Ne.symm nx.2.1)]; exact a.ends, by rw [upd_ne (Ne.symm nx.2.2.1)]; exact a.spr, a.nd⟩
end
def spInitS (C : Addr) : Sp := fun vs H Q _ => ∃ x dx, ∃ n : Nat, vs = [.ref x, .int (n : Int)] ∧ H x = some (.ins C dx []) ∧ n ≤ 3000 ∧
  ∀ lA lE lS as H', But x H H' → SAt C H' x dx lA lE lS as 0 n [] [] → (∀ b ∈ lA :: lE :: lS :: as, H b = none) → Q .non H'
def spTieS (C : Addr) : Sp := fun vs H Q _ => ∃ x dx lA lE lS as src n ts sp, ∃ h t : Nat, ∃ m : Int, vs = [.ref x, .int (h : Int), .int (t : Int), .int m] ∧ SAt C H x dx lA lE lS as src n ts sp ∧ h < n ∧ t < n ∧ 0 ≤ m ∧ ts.length < 3000 ∧
  ∀ H', KeptM (x :: lE :: lS :: as) H H' → SAt C H' x dx lA lE lS as src n (ts ++ [⟨h, t, m⟩]) (sp ++ [m, 0]) → Q (.int (ts.length : Int)) H'
def spSentS (C : Addr) : Sp := fun vs H Q _ => ∃ x dx lA lE lS as src n ts sp, ∃ k : Nat, vs = [.ref x, .int (k : Int)] ∧ SAt C H x dx lA lE lS as src n ts sp ∧ k < ts.length ∧ Q (.int (at0 sp (2 * k + 1))) H
def pts (tree : List (Nat × Option Nat)) : List Nat := tree.map (·.1)
def spCameS (C : Addr) : Sp := fun vs H Q _ => ∃ x dx lA lE lS as, ∃ src : Nat, ∃ n ts sp, ∃ g : Option Nat, vs = [.ref x, oV (g.map fun z => (z : Int))] ∧ SAt C H x dx lA lE lS as (src : Int) n ts sp ∧ src < n ∧
  ∀ d tree H', Same H H' → H d = none → H' d = some (.dK (treeK tree)) → TreeOk ts sp n src tree → ((∀ z, g = some z → z ∉ pts tree) → ∀ p ∈ pts tree, ClosedAt ts sp (pts tree) p) → Q (.ref d) H'
def spAlongS (C : Addr) : Sp := fun vs H Q _ => ∃ x dx lA lE lS as, ∃ src : Nat, ∃ n ts sp d tree, ∃ g : Nat, vs = [.ref x, .ref d, .int (g : Int)] ∧ SAt C H x dx lA lE lS as (src : Int) n ts sp ∧ H d = some (.dK (treeK tree)) ∧ TreeOk ts sp n src tree ∧ g ∈ pts tree ∧ g ≠ src ∧
  ∀ m w H', 0 < m → BackW ts g w src → (∀ a ∈ w, a < 2 * ts.length ∧ m ≤ at0 sp a) → w.Nodup → KeptM [lS] H H' → SAt C H' x dx lA lE lS as (src : Int) n ts (bumpAll sp w m) → Q (.int m) H'
def spSendS (C : Addr) : Sp := fun vs H Q _ => ∃ x dx lA lE lS as src0 n ts sp, ∃ s g : Nat, vs = [.ref x, .int (s : Int), .int (g : Int)] ∧ SAt C H x dx lA lE lS as src0 n ts sp ∧ s < n ∧ g < n ∧ s ≠ g ∧
  ∀ tot sp' tree H', KeptM [x, lS] H H' → SAt C H' x dx lA lE lS as (s : Int) n ts sp' → 0 ≤ tot → (∀ p, net ts sp' p ts.length = net ts sp p ts.length + tot * ((if g = p then 1 else 0) - (if s = p then 1 else 0))) → TreeOk ts sp' n s tree → g ∉ pts tree → (∀ p ∈ pts tree, ClosedAt ts sp' (pts tree) p) → Q (.int tot) H'
def spNearS (C : Addr) : Sp := fun vs H Q _ => ∃ x dx lA lE lS as, ∃ src : Nat, ∃ n ts sp, vs = [.ref x] ∧ SAt C H x dx lA lE lS as (src : Int) n ts sp ∧ src < n ∧
  ∀ l tree H', Same H H' → H l = none → H' l = some (.lst ((List.range n).map fun p => V.bl (decide (p ∈ pts tree)))) → TreeOk ts sp n src tree → (∀ p ∈ pts tree, ClosedAt ts sp (pts tree) p) → Q (.ref l) H'
end Sm
set_option Elab.async false
set_option linter.all false
set_option maxRecDepth 100000
set_option maxHeartbeats 400000
namespace L2
open PySem PySem.Spec PyProof.Rows
theorem pe_fld' {X : Cx} {K : PySem.W.Frag} {e : Expr} {f : Str} {pos : Pos} {ta : TE} (hK : X.K = K) (he : PE X e ta) (hb : attributeBase e f X.env (eval e X.env) = eval e X.env) : PE X (.Attribute e f pos) (tFld K ta f) := by subst hK; exact pe_fld he hb
section
variable {n : Nat} {caps : List Nat} {g : TG} {tc : TT} {te : TE} {σ : St} {H : Hp} {Qf : Addr → Hp → List V → Prop}
theorem comp_rangeB {lo : Int} {m : Nat} (Pv : Nat → St → List V → Hp → Prop) (h0 : Pv 0 (tau0 n caps σ) [] H) (hn : m ≤ 200000) (hl : ∀ i τ acc H, Pv i τ acc H → acc.length ≤ i)
    (hs : ∀ i τ acc H (C : St → List V → Hp → Prop), i < m → Pv i τ acc H → (∀ τ acc H, Pv (i + 1) τ acc H → C τ acc H) → g (.int (lo + i)) τ H fun τ2 H2 => tc τ2 H2 fun b H3 => if b = true then te τ2 H3 fun y H4 => C τ2 (acc ++ [y]) H4 else C τ2 acc H3)
    (hd : ∀ τ acc H, Pv m τ acc H → ∀ p, H p = none → Qf p H acc) :
    ∃ W : Nat → Nat → St → List V → Hp → Prop, (∃ m, W 0 m (tau0 n caps σ) [] H) ∧ ∀ i m' τ acc H, W i m' τ acc H →
      ((Itr lo m).stop i H ∧ acc.length ≤ sizeLine ∧ ∀ p, H p = none → Qf p H acc) ∨
      ((Itr lo m).go i H ∧ acc.length < sizeLine ∧ ∀ x H', (Itr lo m).yld i H x H' → g x τ H' fun τ2 H2 => tc τ2 H2 fun b H3 => if b = true then te τ2 H3 fun y H4 => ∃ m'', m'' < m' ∧ W (i + 1) m'' τ2 (acc ++ [y]) H4 else ∃ m'', m'' < m' ∧ W (i + 1) m'' τ2 acc H3) :=
  comp_ofB (J := Itr lo m) Pv m h0 hn hl (fun i τ acc H hi p => hi) (fun τ acc H p => Nat.le_refl _)
    (fun i τ acc H C hi p c x H' y => by obtain ⟨e1, e2⟩ := y; subst e1; subst e2; exact hs i τ acc _ C hi p c) hd
end
end L2
namespace Sm
open PySem L2 SmSort
theorem arcsTo_snoc {ts : List Tie} {x : Tie} {p : Nat} : ∀ i, i ≤ ts.length → arcsTo (ts ++ [x]) p i = arcsTo ts p i
  | 0, _ => rfl
  | i + 1, hi => by
    unfold arcsTo
    rw [arcsTo_snoc i (by omega), List.getElem?_append_left (by omega)]
theorem arcsTo_end {ts : List Tie} {x : Tie} {p : Nat} : arcsTo (ts ++ [x]) p (ts ++ [x]).length = arcsTo ts p ts.length ++ ((if x.h = p then [((2 * ts.length : Nat) : Int)] else []) ++ (if x.t = p then [((2 * ts.length + 1 : Nat) : Int)] else [])) := by
  rw [List.length_append]
  show arcsTo _ _ (ts.length + 1) = _
  conv => lhs; unfold arcsTo
  rw [arcsTo_snoc _ (Nat.le_refl _), List.getElem?_append_right (Nat.le_refl _), Nat.sub_self]
  rfl
theorem endsOf_snoc {ts : List Tie} {x : Tie} : endsOf (ts ++ [x]) = endsOf ts ++ [(x.t : Int), (x.h : Int)] := by unfold endsOf; rw [List.flatMap_append]; rfl
theorem at_snoc {sp : List Int} {a : Nat} {zs : List Int} (h : a < sp.length) : at0 (sp ++ zs) a = at0 sp a := by unfold at0; rw [List.getElem?_append_left h]
theorem Sound.snoc {ts : List Tie} {sp : List Int} {x : Tie} (s : Sound ts sp) (m0 : 0 ≤ x.m) : Sound (ts ++ [x]) (sp ++ [x.m, 0]) := by
  have l := s.len
  have e0 : at0 (sp ++ [x.m, 0]) (2 * ts.length) = x.m := by unfold at0; rw [List.getElem?_append_right (by omega), l, Nat.sub_self]; rfl
  have e1 : at0 (sp ++ [x.m, 0]) (2 * ts.length + 1) = 0 := by unfold at0; rw [List.getElem?_append_right (by omega), l, show 2 * ts.length + 1 - 2 * ts.length = 1 by omega]; rfl
  refine ⟨by rw [List.length_append, List.length_append, l]; show _ + 2 = 2 * (_ + 1); omega, fun a ha => ?_, fun k y hy => ?_⟩
  · rw [List.length_append] at ha
    have ha : a < 2 * (ts.length + 1) := ha
    by_cases c : a < 2 * ts.length
    · rw [at_snoc (by omega)]; exact s.pos a c
    · rcases (by omega : a = 2 * ts.length ∨ a = 2 * ts.length + 1) with rfl | rfl
      · rw [e0]; exact m0
      · rw [e1]; exact Int.le_refl _
  · by_cases c : k < ts.length
    · rw [List.getElem?_append_left c] at hy
      rw [at_snoc (by omega), at_snoc (by omega)]; exact s.sum k y hy
    · have hk : k < (ts ++ [x]).length := (List.getElem?_eq_some_iff.mp hy).1
      rw [List.length_append] at hk
      have : k = ts.length := by have : k < ts.length + 1 := hk; omega
      subst this
      rw [List.getElem?_append_right (Nat.le_refl _), Nat.sub_self] at hy
      cases hy
      rw [e0, e1]; omega
theorem map_at {xs : List Int} {a : Nat} {z : Int} (h : xs[a]? = some z) : (xs.map V.int)[a]? = some (V.int z) := by rw [List.getElem?_map, h]; rfl
theorem at0_get {sp : List Int} {a : Nat} (h : a < sp.length) : sp[a]? = some (at0 sp a) := by unfold at0; rw [List.getElem?_eq_getElem h]; rfl
theorem map_setI {xs : List Int} {a : Nat} {z : Int} : (xs.map V.int).set a (.int z) = (xs.set a z).map V.int := by rw [List.map_set]
theorem arcsTo_len {ts : List Tie} {p : Nat} : ∀ i, (arcsTo ts p i).length ≤ 2 * i
  | 0 => Nat.le_refl _
  | i + 1 => by
    have ih := arcsTo_len (ts := ts) (p := p) i
    unfold arcsTo
    rw [List.length_append]
    split
    · rw [List.length_append]; split <;> split <;> simp <;> omega
    · simp; omega
theorem tree_get {p : Nat} : ∀ {tree : List (Nat × Option Nat)}, p ∉ pts tree → valV (treeK tree) (Sum.inl (p : Int)) = none
  | [], _ => rfl
  | x :: tree, h => by
    have h1 : ¬ x.1 = p := fun z => h (by rw [← z]; exact .head _)
    have e : treeK (x :: tree) = (Sum.inl (x.1 : Int), oV (x.2.map fun a => (a : Int))) :: treeK tree := rfl
    rw [e, valV_neg (fun z => h1 (by injection z with z; exact Int.ofNat.inj z))]
    exact tree_get fun z => h (.tail _ z)
theorem tree_got : ∀ {tree : List (Nat × Option Nat)} {i p : Nat} {o : Option Nat}, (pts tree).Nodup → tree[i]? = some (p, o) → valV (treeK tree) (Sum.inl (p : Int)) = some (oV (o.map fun a => (a : Int)))
  | [], i, p, o, _, h => by cases h
  | x :: tree, 0, p, o, _, h => by cases h; exact valV_pos rfl
  | x :: tree, i + 1, p, o, nd, h => by
    have e : treeK (x :: tree) = (Sum.inl (x.1 : Int), oV (x.2.map fun a => (a : Int))) :: treeK tree := rfl
    have nd : (x.1 :: pts tree).Nodup := nd
    have nd := List.nodup_cons.mp nd
    have h : tree[i]? = some (p, o) := h
    have hm : p ∈ pts tree := List.mem_map.mpr ⟨_, List.mem_of_getElem? h, rfl⟩
    rw [e, valV_neg (fun z => nd.1 (by injection z with z; rw [Int.ofNat.inj z]; exact hm))]
    exact tree_got nd.2 h
theorem tree_some {p : Nat} {tree : List (Nat × Option Nat)} (nd : (pts tree).Nodup) : (valV (treeK tree) (Sum.inl (p : Int))).isSome = decide (p ∈ pts tree) := by
  by_cases c : p ∈ pts tree
  · obtain ⟨x, hx, rfl⟩ := List.mem_map.mp c
    obtain ⟨i, hi⟩ := List.getElem?_of_mem hx
    rw [tree_got (o := x.2) nd hi, decide_eq_true c]; rfl
  · rw [tree_get c, decide_eq_false c]; rfl
theorem tree_put {p a : Nat} {tree : List (Nat × Option Nat)} (h : p ∉ pts tree) : putK (treeK tree) (Sum.inl (p : Int)) (.int (a : Int)) = treeK (tree ++ [(p, some a)]) := by
  unfold putK
  rw [L2.valV_any, tree_get h, if_neg (by decide)]
  unfold treeK
  rw [List.map_append]; rfl
theorem pts_snoc {tree : List (Nat × Option Nat)} {p : Nat} {o : Option Nat} : pts (tree ++ [(p, o)]) = pts tree ++ [p] := by unfold pts; rw [List.map_append]; rfl
theorem nodup_pts {n : Nat} {l : List Nat} (nd : l.Nodup) (h : ∀ x ∈ l, x < n) : l.length ≤ n := by
  have := nodup_len (xs := l.map fun x : Nat => (x : Int)) (ys := (List.range n).map fun x : Nat => (x : Int)) (List.pairwise_map.mpr (nd.imp fun h e => h (Int.ofNat_inj.mp e))) fun x hx => by
    obtain ⟨y, hy, rfl⟩ := List.mem_map.mp hx
    exact List.mem_map.mpr ⟨y, List.mem_range.mpr (h y hy), rfl⟩
  rwa [List.length_map, List.length_map, List.length_range] at this
theorem TreeOk.snoc {ts : List Tie} {sp : List Int} {n src : Nat} {tree : List (Nat × Option Nat)} (k : TreeOk ts sp n src tree) {a p : Nat} (ha : a < 2 * ts.length) (hp : p ∉ pts tree) (pn : p < n) (he : hd ts a = p) (h0 : 0 < at0 sp a) (hin : tl ts a ∈ pts tree) : TreeOk ts sp n src (tree ++ [(p, some a)]) := by
  have hne : 0 < tree.length := (List.getElem?_eq_some_iff.mp k.root).1
  refine ⟨by rw [List.getElem?_append_left hne]; exact k.root, ?_, fun x hx => ?_, fun i x hx hi => ?_⟩
  · have := pts_snoc (tree := tree) (p := p) (o := some a)
    unfold pts at this hp
    rw [this]
    exact List.nodup_append.mpr ⟨k.nod, List.nodup_cons.mpr ⟨by simp, .nil⟩, fun b hb c hc => by rw [List.mem_singleton.mp hc]; exact fun z => hp (z ▸ hb)⟩
  · rcases List.mem_append.mp hx with h | h
    · exact k.ins x h
    · rw [List.mem_singleton.mp h]; exact pn
  · by_cases c : i < tree.length
    · rw [List.getElem?_append_left c] at hx
      obtain ⟨b, h1, h2, h3, h4, j, y, h5, h6, h7⟩ := k.arc i x hx hi
      exact ⟨b, h1, h2, h3, h4, j, y, h5, by rw [List.getElem?_append_left (by omega)]; exact h6, h7⟩
    · have hl := (List.getElem?_eq_some_iff.mp hx).1
      rw [List.length_append] at hl
      have : i = tree.length := by have : i < tree.length + 1 := hl; omega
      subst this
      rw [List.getElem?_append_right (Nat.le_refl _), Nat.sub_self] at hx
      cases hx
      obtain ⟨y, hy, ey⟩ := List.mem_map.mp hin
      obtain ⟨j, hj⟩ := List.getElem?_of_mem hy
      have jl := (List.getElem?_eq_some_iff.mp hj).1
      exact ⟨a, rfl, ha, he, h0, j, y, jl, by rw [List.getElem?_append_left jl]; exact hj, ey⟩
theorem TreeOk.nd {ts : List Tie} {sp : List Int} {n src : Nat} {tree : List (Nat × Option Nat)} (k : TreeOk ts sp n src tree) : (pts tree).Nodup := k.nod
theorem iteAny {c : Bool} {A B : Prop} (h1 : c = true → A) (h0 : c = false → B) : if c = true then A else B := by
  cases c
  · exact h0 rfl
  · exact h1 rfl
structure Cam34 (H H5 : Hp) (d l : Addr) (ts : List Tie) (sp : List Int) (n src : Nat) (tree : List (Nat × Option Nat)) : Prop where
  sm : Same H H5
  fd : H d = none
  fl : H l = none
  ne : d ≠ l
  hd : H5 d = some (.dK (treeK tree))
  hl : H5 l = some (.lst ((pts tree).map fun p : Nat => V.int (p : Int)))
  tk : TreeOk ts sp n src tree
theorem Cam34.add {H H5 : Hp} {d l : Addr} {ts : List Tie} {sp : List Int} {n src : Nat} {tree : List (Nat × Option Nat)} {p a : Nat} (c : Cam34 H H5 d l ts sp n src tree) (tk : TreeOk ts sp n src (tree ++ [(p, some a)])) : Cam34 H (upd (upd H5 d (.dK (treeK (tree ++ [(p, some a)])))) l (.lst (((pts tree).map fun p : Nat => V.int (p : Int)) ++ [V.int (p : Int)]))) d l ts sp n src (tree ++ [(p, some a)]) :=
  ⟨Same.put c.fl (Same.put c.fd c.sm), c.fd, c.fl, c.ne, by rw [upd_ne c.ne]; exact upd_same, by rw [upd_same, pts_snoc, List.map_append]; rfl, tk⟩
theorem TreeOk.len {ts : List Tie} {sp : List Int} {n src : Nat} {tree : List (Nat × Option Nat)} (k : TreeOk ts sp n src tree) : tree.length ≤ n := by
  have := nodup_pts k.nd fun x hx => by obtain ⟨y, hy, rfl⟩ := List.mem_map.mp hx; exact k.ins y hy
  unfold pts at this; rwa [List.length_map] at this
theorem tree_one {ts : List Tie} {sp : List Int} {n src : Nat} (h : src < n) : TreeOk ts sp n src [(src, none)] :=
  ⟨rfl, List.nodup_cons.mpr ⟨by simp, .nil⟩, fun x hx => by rw [List.mem_singleton.mp hx]; exact h, fun i x hx hi => by
    match i, hi with
    | i + 1, _ => cases hx⟩
theorem ClosedAt.more {ts : List Tie} {sp : List Int} {ps qs : List Nat} {p : Nat} (c : ClosedAt ts sp ps p) (h : ∀ x ∈ ps, x ∈ qs) : ClosedAt ts sp qs p := fun a h1 h2 h3 => h _ (c a h1 h2 h3)
theorem BackW.pos {ts : List Tie} {g c : Nat} {w : List Nat} (b : BackW ts g w c) (h : g ≠ c) : 0 < w.length := by
  cases b with
  | nil => exact absurd rfl h
  | snoc b => rw [List.length_append]; exact Nat.succ_pos _
theorem hd_lt {ts : List Tie} {n a : Nat} (tin : ∀ t ∈ ts, t.h < n ∧ t.t < n) (h : a < 2 * ts.length) : hd ts a < n := by
  obtain ⟨k, x, hx, rfl | rfl⟩ := arc_split h
  · rw [(hd_even hx).1]; exact (tin x (List.mem_of_getElem? hx)).2
  · rw [(hd_even hx).2]; exact (tin x (List.mem_of_getElem? hx)).1
end Sm
set_option Elab.async false
set_option linter.all false
set_option maxRecDepth 100000
set_option maxHeartbeats 400000
namespace Sm
open PySem L2 SmSort
def straight (L : L4) (M : M4) : Prop := L.a < M.t ∧ L.s ≠ L.w ∧ (M.lo = (L.s : Int) ∨ M.hi = (L.s : Int)) ∧ (M.lo = (L.w : Int) ∨ M.hi = (L.w : Int))
instance (L : L4) (M : M4) : Decidable (straight L M) := by unfold straight; infer_instance
section
variable {rooms : List Int} {ms : List M4} {ls : List (Addr × L4)} {d : RuleD} {m j : Nat} {s : RS} {M : M4} {L : Addr × L4} {o : Option (Nat × Int)}
end
end Sm
set_option Elab.async false
set_option linter.all false
set_option maxRecDepth 100000
set_option maxHeartbeats 400000
namespace Sm
open PySem L2 SmSort
theorem eqV_refl {x : V} (h : flatV x = true) : eqV x x = true := by
  cases x with
  | non => rfl
  | bl b => show (b == b) = true; simp
  | int i => show (i == i) = true; simp
  | str z => show (z == z) = true; simp
  | _ => cases h
section
variable {ms : List M4} {L : L4} {M : M4} {m : Nat}
end
section
variable {rooms : List Int} {ms : List M4} {ls : List (Addr × L4)} {d : RuleD} {m : Nat} {M : M4} {s : RS}
end
end Sm
set_option Elab.async false
set_option linter.all false
set_option maxRecDepth 100000
set_option maxHeartbeats 400000
namespace L2
open PySem PySem.Spec PyProof.Rows
def CMulB (i j : Int) : Prop := (0 ≤ i ∧ i < 2 ^ 200) ∧ (0 ≤ j ∧ j < 2 ^ 200)
theorem intBits_le_200 {k : Int} (h1 : 0 ≤ k) (h2 : k < 2 ^ 200) : Builtin.Int.intBits k ≤ 2 ^ 20 := by
  unfold Builtin.Int.intBits
  split
  · exact Nat.zero_le _
  · have hn : k.natAbs < 2 ^ 200 := by
      have e : ((2 : Int) ^ 200) = ((2 ^ 200 : Nat) : Int) := by decide +kernel
      rw [e] at h2
      omega
    have : k.natAbs.log2 < 200 := by
      rcases Nat.eq_zero_or_pos k.natAbs with h0 | hp
      · rw [h0]; decide
      · exact (Nat.log2_lt (Nat.ne_of_gt hp)).mpr hn
    have e : (2 : Nat) ^ 20 = 1048576 := by decide
    omega
theorem op_mulB {X : Cx} : OpR X (binaryOp .Mult) (rI CMulB fun i j => .int (i * j)) := opI fun _ _ _ _ _ _ _ hc q => mul_int q (IntMulOk.of_bits (intBits_le_200 hc.1.1 hc.1.2) (intBits_le_200 hc.2.1 hc.2.2))
end L2
namespace Sm
open PySem L2 SmSort
def spr (ts : List Tie) : List Int := ts.flatMap fun t => [t.m, 0]
theorem spr_snoc {ts : List Tie} {x : Tie} : spr (ts ++ [x]) = spr ts ++ [x.m, 0] := by unfold spr; rw [List.flatMap_append]; rfl
theorem spr_odd : ∀ (ts : List Tie) (k : Nat), at0 (spr ts) (2 * k + 1) = 0
  | [], k => by unfold at0 spr; simp
  | x :: ts, 0 => rfl
  | x :: ts, k + 1 => by
    have ih := spr_odd ts k
    have e : spr (x :: ts) = [x.m, 0] ++ spr ts := rfl
    rw [e]
    have : at0 ([x.m, 0] ++ spr ts) (2 * (k + 1) + 1) = at0 (spr ts) (2 * k + 1) := rfl
    rw [this]; exact ih
theorem net_spr {ts : List Tie} {p : Nat} : ∀ i, net ts (spr ts) p i = 0
  | 0 => rfl
  | i + 1 => by
    show net ts (spr ts) p i + (match ts[i]? with | some x => _ | none => _) = _
    rw [net_spr i, spr_odd]
    split
    · rw [Int.zero_mul]; rfl
    · rfl
def tieV (t : Tie) : List V := [.int (t.h : Int), .int (t.t : Int), .int t.m]
structure Ti34 (H H5 : Hp) (l : Addr) (n : Nat) (rows : List (Addr × Tie)) (m : Nat) : Prop where
  sm : Same H H5
  hl : H5 l = some (.lst (rows.map fun r => V.ref r.1))
  each : ∀ r ∈ rows, H5 r.1 = some (.tup (tieV r.2)) ∧ r.2.h < n ∧ r.2.t < n ∧ 0 ≤ r.2.m
  len : rows.length ≤ m
section
variable {H H5 H6 : Hp} {l : Addr} {n m : Nat} {rows : List (Addr × Tie)} {p : Addr}
theorem Ti34.same (t : Ti34 H H5 l n rows m) (s : Same H5 H6) : Ti34 H H6 l n rows m := ⟨t.sm.trans s, s _ _ t.hl, fun r hr => ⟨s _ _ (t.each r hr).1, (t.each r hr).2⟩, t.len⟩
theorem Ti34.le (t : Ti34 H H5 l n rows m) {m' : Nat} (h : m ≤ m') : Ti34 H H5 l n rows m' := ⟨t.sm, t.hl, t.each, Nat.le_trans t.len h⟩
theorem Ti34.go (t : Ti34 H H5 l n rows m) (hp : H p = none) (pu : Purse H5 p) (g : Go p H5 H6) : Ti34 H H6 l n rows m :=
  ⟨But.same hp t.sm g.1, g.1 _ _ (pu.refs t.hl fun x hx => by obtain ⟨r, _, rfl⟩ := List.mem_map.mp hx; exact ⟨_, rfl⟩) t.hl, fun r hr => ⟨g.1 _ _ (pu.tup (t.each r hr).1) (t.each r hr).1, (t.each r hr).2⟩, t.len⟩
theorem Ti34.add (t : Ti34 H H5 l n rows m) {q : Addr} {x : Tie} (fl : H l = none) (hq : H5 q = none) (h1 : x.h < n) (h2 : x.t < n) (h3 : 0 ≤ x.m) : Ti34 H (upd (upd H5 q (.tup (tieV x))) l (.lst ((rows.map fun r => V.ref r.1) ++ [V.ref q]))) l n (rows ++ [(q, x)]) (m + 1) := by
  have ql : q ≠ l := Ne.symm (ne_of_none t.hl hq)
  refine ⟨Same.put fl (Same.put (t.sm.free hq) t.sm), by rw [upd_same, List.map_append]; rfl, fun r hr => ?_, by rw [List.length_append]; show _ + 1 ≤ _; have := t.len; omega⟩
  rcases List.mem_append.mp hr with h | h
  · have e := (t.each r h).1
    refine ⟨?_, (t.each r h).2⟩
    have rl : r.1 ≠ l := fun z => by rw [z, t.hl] at e; cases e
    rw [upd_ne rl, upd_ne (ne_of_none e hq)]; exact e
  · rw [List.mem_singleton.mp h]
    exact ⟨by rw [upd_ne ql]; exact upd_same, h1, h2, h3⟩
end
theorem goal_ne {s0 e n : Int} (h0 : 0 ≤ s0) (h1 : s0 < n) (e0 : 0 ≤ e) (e1 : e < n - 1) : (s0 + 1 + e) % n ≠ s0 := by
  by_cases c : s0 + 1 + e < n
  · rw [Int.emod_eq_of_lt (by omega) c]; omega
  · rw [← Int.sub_emod_right, Int.emod_eq_of_lt (by omega) (by omega)]; omega
theorem made_same {H H' : Hp} {x dx C : Addr} (fx : H x = none) (fd : H dx = none) (b : But x (upd (upd H dx (.own x)) x (.ins C dx [])) H') : Same H H' := fun c u e => b c u (ne_of_none e fx) (by rw [upd_ne (ne_of_none e fx), upd_ne (ne_of_none e fd)]; exact e)
theorem made_free {H : Hp} {x dx b : Addr} {o o' : HO} (h : upd (upd H dx o) x o' b = none) : H b = none := by
  by_cases c1 : b = x
  · subst c1; rw [upd_same] at h; cases h
  · rw [upd_ne c1] at h
    by_cases c2 : b = dx
    · subst c2; rw [upd_same] at h; cases h
    · rwa [upd_ne c2] at h
theorem range_get {f : Nat → V} {n p : Nat} (h : p < n) : ((List.range n).map f)[p]? = some (f p) := by rw [List.getElem?_map, List.getElem?_range h]; rfl
theorem net_step {ts : List Tie} {sp : List Int} {i : Nat} {x : Tie} (hx : ts[i]? = some x) (p : Nat) : net ts sp p (i + 1) = net ts sp p i + at0 sp (2 * i + 1) * ((if x.t = p then 1 else 0) - (if x.h = p then 1 else 0)) := by
  show net ts sp p i + (match ts[i]? with | some x => _ | none => _) = _
  rw [hx]
theorem eq_flat34 {K : PySem.W.Frag} {H : Hp} {l d : Addr} {xs : List V} {Q : VK} {neg : Bool} (hf : ∀ x ∈ xs, flatV x = true) (hl : H l = some (.lst xs)) (hd : H d = some (.lst xs)) (q : Q (.bl (if neg = true then !true else true)) H) : rEqv K neg (.ref l) (.ref d) H Q := by
  refine ⟨0, l, d, _, _, fun _ => true, true, by decide, rfl, rfl, .inl ⟨SqL.of hl, SqL.of hd⟩, by simp, fun i x y hx hy => ?_, q⟩
  rw [hx] at hy; cases hy
  have h := hf x (List.mem_of_getElem? hx)
  exact .inr ⟨h, h, (eqV_refl h).symm⟩
end Sm
set_option Elab.async false
set_option linter.all false
set_option maxRecDepth 100000
set_option maxHeartbeats 400000
namespace Sm
open PySem L2 SmSort
def spTies35 (K : PySem.W.Frag) : Sp := fun vs H Q _ => ∃ sa ns, ∃ n f0 : Nat, vs = [.ref sa, .int (n : Int), .int ((2 + f0 : Nat) : Int)] ∧ SqL K H sa (List.map V.int ns) ∧ ns.length ≤ 63 ∧ 2 ≤ n ∧ n ≤ 9 ∧ f0 < 2 ∧ ∀ l (rows : List (Addr × Tie)) H', Same H H' → H l = none → H' l = some (.lst (rows.map fun r => V.ref r.1)) → (∀ r ∈ rows, H' r.1 = some (.tup (tieV r.2)) ∧ r.2.h < n ∧ r.2.t < n ∧ 0 ≤ r.2.m) → rows.length ≤ 60 → Q (.ref l) H'
def endV (n s g : Nat) : List V := [.int (n : Int), .int (s : Int), .int (g : Int)]
def spEnds35 (K : PySem.W.Frag) : Sp := fun vs H Q _ => ∃ sa ns, ∃ k : Nat, vs = [.ref sa, .int (k : Int)] ∧ SqL K H sa (List.map V.int ns) ∧ k < 1000 ∧ ∀ t (n s g : Nat) H', Same H H' → H' t = some (.tup (endV n s g)) → 2 ≤ n → n ≤ 9 → s < n → g < n → s ≠ g → Q (.ref t) H'
theorem up35 : ∀ j : Nat, j < 43 → ∀ f : Nat, f < 2 → 6 ≤ j → Builtin.divisionGoesByPylong ((j : Int) - ((2 + f : Nat) : Int)) 2 = false ∧ Builtin.Range.small ((2 + f : Nat) : Int) (j : Int) 2 = true ∧ Builtin.Range.rangeSize ((2 + f : Nat) : Int) (j : Int) 2 = (((j - 2 - f + 1) / 2 : Nat) : Int) := by decide
theorem tree_sub {ts : List Tie} {sp : List Int} {n src : Nat} {tree : List (Nat × Option Nat)} (k : TreeOk ts sp n src tree) {ps : List Nat} (h0 : src ∈ ps) (cl : ∀ p ∈ ps, ClosedAt ts sp ps p) : ∀ p ∈ pts tree, p ∈ ps := by
  intro p h
  obtain ⟨y, hy, rfl⟩ := List.mem_map.mp h
  obtain ⟨i, hi⟩ := List.getElem?_of_mem hy
  clear hy h
  induction i using Nat.strongRecOn generalizing y with
  | _ i ih =>
    rcases Nat.eq_zero_or_pos i with z | z
    · subst z; rw [k.root] at hi; cases hi; exact h0
    · obtain ⟨b, _, hb, e2, b0, j, x, hj, hx, ex⟩ := k.arc i y hi z
      have hl := ih j hj x hx
      rw [ex] at hl
      rw [← e2]
      exact cl _ hl b hb rfl b0
theorem TreeOk.src {ts : List Tie} {sp : List Int} {n src : Nat} {tree : List (Nat × Option Nat)} (k : TreeOk ts sp n src tree) : src ∈ pts tree := List.mem_map.mpr ⟨_, List.mem_of_getElem? k.root, rfl⟩
def sm35 (f : Nat → Int) : List Nat → Int
  | [] => 0
  | p :: S => f p + sm35 f S
theorem sm_add (f g : Nat → Int) : ∀ S, sm35 (fun p => f p + g p) S = sm35 f S + sm35 g S
  | [] => rfl
  | p :: S => by show f p + g p + sm35 _ S = f p + sm35 f S + (g p + sm35 g S); rw [sm_add f g S]; omega
theorem sm_sub (f g : Nat → Int) : ∀ S, sm35 (fun p => f p - g p) S = sm35 f S - sm35 g S
  | [] => rfl
  | p :: S => by show f p - g p + sm35 _ S = f p + sm35 f S - (g p + sm35 g S); rw [sm_sub f g S]; omega
theorem sm_mul (c : Int) (f : Nat → Int) : ∀ S, sm35 (fun p => c * f p) S = c * sm35 f S
  | [] => by show (0 : Int) = c * 0; rw [Int.mul_zero]
  | p :: S => by show c * f p + sm35 _ S = c * (f p + sm35 f S); rw [sm_mul c f S, Int.mul_add]
theorem sm_one (t : Nat) : ∀ {S : List Nat}, S.Nodup → sm35 (fun p => if t = p then 1 else 0) S = if t ∈ S then 1 else 0
  | [], _ => by rw [if_neg (by simp)]; rfl
  | p :: S, nd => by
    have nd := List.nodup_cons.mp nd
    show (if t = p then (1 : Int) else 0) + sm35 _ S = _
    rw [sm_one t nd.2]
    by_cases c : t = p
    · subst c; rw [if_pos rfl, if_neg nd.1, if_pos (List.mem_cons_self ..)]; rfl
    · rw [if_neg c]
      by_cases d : t ∈ S
      · rw [if_pos d, if_pos (List.mem_cons_of_mem _ d)]; rfl
      · rw [if_neg d, if_neg (by simp [c, d])]; rfl
theorem sm_zero : ∀ S, sm35 (fun _ => 0) S = 0
  | [] => rfl
  | p :: S => by show (0 : Int) + sm35 _ S = 0; rw [sm_zero S]; rfl
def cutS (ts : List Tie) (S : List Nat) : Nat → Int
  | 0 => 0
  | i + 1 => cutS ts S i + (match ts[i]? with | some x => (if x.h ∈ S ∧ x.t ∉ S then x.m else 0) | none => 0)
theorem net_cut {ts : List Tie} {sp : List Int} (s : Sound ts sp) {S : List Nat} (nd : S.Nodup) (cl : ∀ p ∈ S, ClosedAt ts sp S p) : ∀ i, i ≤ ts.length → sm35 (fun p => net ts sp p i) S = - cutS ts S i
  | 0, _ => sm_zero S
  | i + 1, hi => by
    obtain ⟨x, hx⟩ : ∃ x, ts[i]? = some x := ⟨_, List.getElem?_eq_getElem (by omega)⟩
    have ih := net_cut s nd cl i (by omega)
    have e : (fun p => net ts sp p (i + 1)) = fun p => net ts sp p i + at0 sp (2 * i + 1) * ((if x.t = p then 1 else 0) - (if x.h = p then 1 else 0)) := by funext p; exact net_step hx p
    have ec : cutS ts S (i + 1) = cutS ts S i + (if x.h ∈ S ∧ x.t ∉ S then x.m else 0) := by
      show cutS ts S i + (match ts[i]? with | some x => _ | none => _) = _
      rw [hx]
    rw [e, sm_add, ih, sm_mul, sm_sub, sm_one _ nd, sm_one _ nd, ec]
    have h1 := s.pos (2 * i) (by omega)
    have h2 := s.pos (2 * i + 1) (by omega)
    have h3 := s.sum i x hx
    obtain ⟨a1, a2⟩ := hd_even hx
    obtain ⟨b1, b2⟩ := tl_even hx
    by_cases c1 : x.h ∈ S
    · by_cases c2 : x.t ∈ S
      · rw [if_pos c2, if_pos c1, if_neg (fun h => h.2 c2)]; omega
      · rw [if_neg c2, if_pos c1, if_pos ⟨c1, c2⟩]
        have : ¬ 0 < at0 sp (2 * i) := fun h => c2 (by have := cl _ c1 (2 * i) (by omega) b1 h; rwa [a1] at this)
        have : at0 sp (2 * i + 1) = x.m := by omega
        rw [this]; omega
    · rw [if_neg c1, if_neg (show ¬ (x.h ∈ S ∧ x.t ∉ S) from fun h => c1 h.1)]
      by_cases c2 : x.t ∈ S
      · rw [if_pos c2]
        have : ¬ 0 < at0 sp (2 * i + 1) := fun h => c1 (by have := cl _ c2 (2 * i + 1) (by omega) b2 h; rwa [a2] at this)
        have : at0 sp (2 * i + 1) = 0 := by omega
        rw [this]; omega
      · rw [if_neg c2]; omega
theorem cut_tot {ts : List Tie} {sp : List Int} (s : Sound ts sp) {S : List Nat} (nd : S.Nodup) (cl : ∀ p ∈ S, ClosedAt ts sp S p) {tot : Int} {s0 g : Nat} (h0 : s0 ∈ S) (hg : g ∉ S) (nt : ∀ p, net ts sp p ts.length = tot * ((if g = p then 1 else 0) - (if s0 = p then 1 else 0))) : cutS ts S ts.length = tot := by
  have := net_cut s nd cl _ (Nat.le_refl _)
  have e : (fun p => net ts sp p ts.length) = fun p => tot * ((if g = p then 1 else 0) - (if s0 = p then 1 else 0)) := funext nt
  rw [e, sm_mul, sm_sub, sm_one _ nd, sm_one _ nd, if_neg hg, if_pos h0] at this
  omega
theorem SAt.kept {C : Addr} {H H' : Hp} {x dx lA lE lS : Addr} {as : List Addr} {src : Int} {n : Nat} {ts : List Tie} {sp : List Int} {M : List Addr} (a : SAt C H x dx lA lE lS as src n ts sp) (k : KeptM M H H') (f : ∀ b ∈ x :: lA :: lE :: lS :: as, b ∉ M) : SAt C H' x dx lA lE lS as src n ts sp :=
  ⟨⟨k _ _ (f _ (.head _)) a.raw.ins, k _ _ (f _ (.tail _ (.head _))) a.raw.arcs, fun p r hr => k _ _ (f _ (.tail _ (.tail _ (.tail _ (.tail _ (List.mem_of_getElem? hr)))))) (a.raw.rws p r hr), k _ _ (f _ (.tail _ (.tail _ (.head _)))) a.raw.ends, k _ _ (f _ (.tail _ (.tail _ (.tail _ (.head _))))) a.raw.spr, a.raw.nd⟩, a.len, a.tin, a.snd, a.sz⟩
structure Met35 (ts : List Tie) (sp : List Int) (tree : List (Nat × Option Nat)) (r k : Nat) (F : List Nat) : Prop where
  sub : ∀ p ∈ F, p ∈ pts tree
  nd : F.Nodup
  old : ∀ (i : Nat) y, i ≤ r → tree[i]? = some y → y.1 ∈ F
  new : ∀ a, a < 2 * k → at0 sp a > 0 → (∃ (i : Nat) (y : Nat × Option Nat), i ≤ r ∧ tree[i]? = some y ∧ y.1 = tl ts a) → hd ts a ∈ F
theorem Met35.more {ts : List Tie} {sp : List Int} {tree : List (Nat × Option Nat)} {r k : Nat} {F : List Nat} {p : Nat} (m : Met35 ts sp tree r k F) (hp : p ∈ pts tree) (np : p ∉ F) : Met35 ts sp tree r k (F ++ [p]) :=
  ⟨fun q hq => by rcases List.mem_append.mp hq with h | h; exact m.sub q h; rw [List.mem_singleton.mp h]; exact hp,
   List.nodup_append.mpr ⟨m.nd, List.nodup_cons.mpr ⟨by simp, .nil⟩, fun b hb c hc => by rw [List.mem_singleton.mp hc]; exact fun e => np (e ▸ hb)⟩,
   fun i y hi hy => List.mem_append_left _ (m.old i y hi hy), fun a ha h0 h => List.mem_append_left _ (m.new a ha h0 h)⟩
theorem Met35.next {ts : List Tie} {sp : List Int} {tree : List (Nat × Option Nat)} {r k : Nat} {F : List Nat} {x : Tie} (m : Met35 ts sp tree r k F) (hx : ts[k]? = some x) (h1 : x.h ∈ F → at0 sp (2 * k) > 0 → x.t ∈ F) (h2 : x.t ∈ F → at0 sp (2 * k + 1) > 0 → x.h ∈ F) : Met35 ts sp tree r (k + 1) F :=
  ⟨m.sub, m.nd, m.old, fun a ha h0 h => by
    by_cases c : a < 2 * k
    · exact m.new a c h0 h
    · obtain ⟨i, y, hi, hy, e⟩ := h
      have hF := m.old i y hi hy
      rw [e] at hF
      rcases (by omega : a = 2 * k ∨ a = 2 * k + 1) with rfl | rfl
      · rw [(hd_even hx).1]; rw [(tl_even hx).1] at hF; exact h1 hF h0
      · rw [(hd_even hx).2]; rw [(tl_even hx).2] at hF; exact h2 hF h0⟩
theorem Met35.round {ts : List Tie} {sp : List Int} {n src : Nat} {tree : List (Nat × Option Nat)} {r : Nat} {F : List Nat} (tk : TreeOk ts sp n src tree) (m : Met35 ts sp tree r ts.length F) : Met35 ts sp tree (r + 1) 0 F :=
  ⟨m.sub, m.nd, fun i y hi hy => by
    by_cases c : i ≤ r
    · exact m.old i y c hy
    · obtain ⟨b, _, hb, e2, b0, j, z, hj, hz, ez⟩ := tk.arc i y hy (by omega)
      rw [← e2]
      exact m.new b hb b0 ⟨j, z, by omega, hz, ez⟩, fun a ha => by omega⟩
theorem Met35.all {ts : List Tie} {sp : List Int} {n src : Nat} {tree : List (Nat × Option Nat)} {F : List Nat} (tk : TreeOk ts sp n src tree) (m : Met35 ts sp tree n 0 F) (p : Nat) : p ∈ F ↔ p ∈ pts tree := by
  refine ⟨m.sub p, fun h => ?_⟩
  obtain ⟨y, hy, rfl⟩ := List.mem_map.mp h
  obtain ⟨i, hi⟩ := List.getElem?_of_mem hy
  have := (List.getElem?_eq_some_iff.mp hi).1
  have := tk.len
  exact m.old i y (by omega) hi
def spMet35 : Sp := fun vs H Q _ => ∃ (src n : Nat) (lt ls : Addr) (rows : List (Addr × Tie)) (sp : List Int) (tree : List (Nat × Option Nat)), vs = [.int (src : Int), .int (n : Int), .ref lt, .ref ls] ∧ n ≤ 9 ∧ H lt = some (.lst (rows.map fun r => V.ref r.1)) ∧ (∀ r ∈ rows, H r.1 = some (.tup (tieV r.2))) ∧ rows.length ≤ 60 ∧ H ls = some (.lst ((List.range rows.length).map fun k => V.int (at0 sp (2 * k + 1)))) ∧ Sound (rows.map (·.2)) sp ∧ TreeOk (rows.map (·.2)) sp n src tree ∧ (∀ p ∈ pts tree, ClosedAt (rows.map (·.2)) sp (pts tree) p) ∧
  ∀ l H', Same H H' → H' l = some (.lst ((List.range n).map fun p => V.bl (decide (p ∈ pts tree)))) → Q (.ref l) H'
def spShown35 (C : Addr) : Sp := fun vs H Q _ => ∃ (x dx lA lE lS : Addr) (as : List Addr) (src n g : Nat) (rows : List (Addr × Tie)) (sp : List Int) (t lt : Addr) (tot : Int), vs = [.ref x, .ref t, .ref lt, .int tot] ∧ SAt C H x dx lA lE lS as (src : Int) n (rows.map (·.2)) sp ∧ H t = some (.tup (endV n src g)) ∧ src < n ∧ g < n ∧ n ≤ 9 ∧ H lt = some (.lst (rows.map fun r => V.ref r.1)) ∧ (∀ r ∈ rows, H r.1 = some (.tup (tieV r.2)) ∧ r.2.h < n ∧ r.2.t < n) ∧ rows.length ≤ 60 ∧ (∀ tree, TreeOk (rows.map (·.2)) sp n src tree → g ∉ pts tree) ∧ (∀ p, net (rows.map (·.2)) sp p rows.length = tot * ((if g = p then 1 else 0) - (if src = p then 1 else 0))) ∧
  ∀ H', Same H H' → Q (.bl true) H'
structure S35 where
  x : Addr
  dx : Addr
  lA : Addr
  lE : Addr
  lS : Addr
  as : List Addr
  n : Nat
  lt : Addr
  rows : List (Addr × Tie)
def S35.own (s : S35) : List Addr := s.x :: s.lA :: s.lE :: s.lS :: s.as
def S35.At (C : Addr) (H : Hp) (s : S35) (src : Int) (c : Nat) (sp : List Int) : Prop := SAt C H s.x s.dx s.lA s.lE s.lS s.as src s.n ((s.rows.take c).map (·.2)) sp
def S35.Tied (H : Hp) (s : S35) : Prop := H s.lt = some (.lst (s.rows.map fun r => V.ref r.1)) ∧ (∀ r ∈ s.rows, H r.1 = some (.tup (tieV r.2)) ∧ r.2.h < s.n ∧ r.2.t < s.n ∧ 0 ≤ r.2.m) ∧ s.rows.length ≤ 60
def spTied35 (C : Addr) : Sp := fun vs H Q _ => ∃ (l1 l2 : Addr) (f : Nat → S35), vs = [.ref l1, .ref l2] ∧ H l1 = some (.lst [.ref (f 0).x, .ref (f 1).x]) ∧ H l2 = some (.lst [.ref (f 0).lt, .ref (f 1).lt]) ∧ (∀ i, i < 2 → (f i).At C H 0 0 [] ∧ (f i).Tied H) ∧ (∀ b ∈ (f 0).own, b ∉ (f 1).own) ∧
  l1 ∉ (f 0).own ++ (f 1).own ∧ l2 ∉ (f 0).own ++ (f 1).own ∧ (∀ i, i < 2 → (f i).lt ∉ (f 0).own ++ (f 1).own ∧ ∀ r ∈ (f i).rows, r.1 ∉ (f 0).own ++ (f 1).own) ∧
  ∀ v H', KeptM ((f 0).own ++ (f 1).own) H H' → (∀ i, i < 2 → (f i).At C H' 0 (f i).rows.length (spr ((f i).rows.map (·.2)))) → Q v H'
theorem pick2 {g : Nat → Addr} {j : Nat} (h : j < 2) : atI [V.ref (g 0), V.ref (g 1)] (j : Int) = some (V.ref (g j)) := by
  rcases (by omega : j = 0 ∨ j = 1) with rfl | rfl <;> rfl
theorem own_apart {f : Nat → S35} (dj : ∀ b ∈ (f 0).own, b ∉ (f 1).own) {i j : Nat} (hi : i < 2) (hj : j < 2) (ne : i ≠ j) : ∀ b ∈ (f i).own, b ∉ (f j).own := by
  rcases (by omega : i = 0 ∧ j = 1 ∨ i = 1 ∧ j = 0) with ⟨rfl, rfl⟩ | ⟨rfl, rfl⟩
  · exact dj
  · exact fun b h h2 => dj b h2 h
theorem own_sub {f : Nat → S35} {j : Nat} (hj : j < 2) : ∀ b ∈ (f j).own, b ∈ (f 0).own ++ (f 1).own := by
  rcases (by omega : j = 0 ∨ j = 1) with rfl | rfl
  · exact fun b h => List.mem_append_left _ h
  · exact fun b h => List.mem_append_right _ h
theorem tie_own {s : S35} : ∀ b ∈ s.x :: s.lE :: s.lS :: s.as, b ∈ s.own := fun b h => by
  unfold S35.own
  rcases List.mem_cons.mp h with rfl | h
  · exact .head _
  · exact .tail _ (.tail _ h)
theorem send_own {s : S35} : ∀ b ∈ [s.x, s.lS], b ∈ s.own := fun b h => by
  unfold S35.own
  rcases List.mem_cons.mp h with rfl | h
  · exact .head _
  · rw [List.mem_singleton.mp h]; exact .tail _ (.tail _ (.tail _ (.head _)))
def S35.On (C : Addr) (H : Hp) (s : S35) (src : Int) (sp : List Int) : Prop := SAt C H s.x s.dx s.lA s.lE s.lS s.as src s.n (s.rows.map (·.2)) sp
theorem own_some {C : Addr} {H : Hp} {x dx lA lE lS : Addr} {as : List Addr} {src : Int} {n : Nat} {ts : List Tie} {sp : List Int} (a : SAt C H x dx lA lE lS as src n ts sp) : ∀ b ∈ x :: lA :: lE :: lS :: as, H b ≠ none := by
  intro b hb
  rcases List.mem_cons.mp hb with rfl | hb
  · rw [a.raw.ins]; exact fun z => by cases z
  rcases List.mem_cons.mp hb with rfl | hb
  · rw [a.raw.arcs]; exact fun z => by cases z
  rcases List.mem_cons.mp hb with rfl | hb
  · rw [a.raw.ends]; exact fun z => by cases z
  rcases List.mem_cons.mp hb with rfl | hb
  · rw [a.raw.spr]; exact fun z => by cases z
  obtain ⟨i, hi⟩ := List.getElem?_of_mem hb
  rw [a.raw.rws i _ hi]; exact fun z => by cases z
structure W35 (M : List Addr) (le l1 l2 : Addr) (tt : Nat → Addr) (f : Nat → S35) (ss gg : Nat → Nat) (H : Hp) : Prop where
  hle : H le = some (.lst [.ref (tt 0), .ref (tt 1)])
  h1 : H l1 = some (.lst [.ref (f 0).x, .ref (f 1).x])
  h2 : H l2 = some (.lst [.ref (f 0).lt, .ref (f 1).lt])
  ht : ∀ i, i < 2 → H (tt i) = some (.tup (endV (f i).n (ss i) (gg i)))
  td : ∀ i, i < 2 → (f i).Tied H
  ale : le ∉ M
  a1 : l1 ∉ M
  a2 : l2 ∉ M
  at_ : ∀ i, i < 2 → tt i ∉ M
  alt : ∀ i, i < 2 → (f i).lt ∉ M ∧ ∀ r ∈ (f i).rows, r.1 ∉ M
theorem W35.kept {M : List Addr} {le l1 l2 : Addr} {tt : Nat → Addr} {f : Nat → S35} {ss gg : Nat → Nat} {H H' : Hp} (w : W35 M le l1 l2 tt f ss gg H) (k : KeptM M H H') : W35 M le l1 l2 tt f ss gg H' :=
  ⟨k _ _ w.ale w.hle, k _ _ w.a1 w.h1, k _ _ w.a2 w.h2, fun i hi => k _ _ (w.at_ i hi) (w.ht i hi), fun i hi => ⟨k _ _ (w.alt i hi).1 (w.td i hi).1, fun r hr => ⟨k _ _ ((w.alt i hi).2 r hr) ((w.td i hi).2.1 r hr).1, ((w.td i hi).2.1 r hr).2⟩, (w.td i hi).2.2⟩, w.ale, w.a1, w.a2, w.at_, w.alt⟩
def Sent35 (C : Addr) (H : Hp) (s : S35) (src g : Nat) (tot : Int) : Prop := ∃ sp, s.On C H (src : Int) sp ∧ (∀ tree, TreeOk (s.rows.map (·.2)) sp s.n src tree → g ∉ pts tree) ∧ ∀ p, net (s.rows.map (·.2)) sp p s.rows.length = tot * ((if g = p then 1 else 0) - (if src = p then 1 else 0))
theorem Sent35.kept {C : Addr} {H H' : Hp} {s : S35} {src g : Nat} {tot : Int} {M : List Addr} (a : Sent35 C H s src g tot) (k : KeptM M H H') (f : ∀ b ∈ s.own, b ∉ M) : Sent35 C H' s src g tot := by
  obtain ⟨sp, h1, h2⟩ := a
  exact ⟨sp, SAt.kept h1 k f, h2⟩
def two35 {α : Type} (a b : α) : Nat → α
  | 0 => a
  | _ => b
theorem W35.new {M : List Addr} {le l1 l2 lT : Addr} {tt : Nat → Addr} {f : Nat → S35} {ss gg : Nat → Nat} {H : Hp} {o : HO} (w : W35 M le l1 l2 tt f ss gg H) (fT : H lT = none) : W35 (lT :: M) le l1 l2 tt f ss gg (upd H lT o) := by
  have s : Same H (upd H lT o) := same_new fT
  have nm : ∀ b u, H b = some u → b ∉ M → b ∉ lT :: M := fun b u e n h => by
    rcases List.mem_cons.mp h with rfl | h
    · rw [fT] at e; cases e
    · exact n h
  exact ⟨s _ _ w.hle, s _ _ w.h1, s _ _ w.h2, fun i hi => s _ _ (w.ht i hi), fun i hi => ⟨s _ _ (w.td i hi).1, fun r hr => ⟨s _ _ ((w.td i hi).2.1 r hr).1, ((w.td i hi).2.1 r hr).2⟩, (w.td i hi).2.2⟩, nm _ _ w.hle w.ale, nm _ _ w.h1 w.a1, nm _ _ w.h2 w.a2, fun i hi => nm _ _ (w.ht i hi) (w.at_ i hi), fun i hi => ⟨nm _ _ (w.td i hi).1 (w.alt i hi).1, fun r hr => nm _ _ ((w.td i hi).2.1 r hr).1 ((w.alt i hi).2 r hr)⟩⟩
theorem W35.same {M : List Addr} {le l1 l2 : Addr} {tt : Nat → Addr} {f : Nat → S35} {ss gg : Nat → Nat} {H H' : Hp} (w : W35 M le l1 l2 tt f ss gg H) (s : Same H H') : W35 M le l1 l2 tt f ss gg H' := w.kept (Same.keptM s)
theorem Sent35.same {C : Addr} {H H' : Hp} {s : S35} {src g : Nat} {tot : Int} (a : Sent35 C H s src g tot) (k : Same H H') : Sent35 C H' s src g tot := by
  obtain ⟨sp, h1, h2⟩ := a
  exact ⟨sp, SAt.same h1 k, h2⟩
end Sm
namespace Sm
open PySem L2
theorem line9 : 1002 ≤ sizeLine := by rw [sizeLine_eq]; decide
end Sm

set_option Elab.async false
set_option linter.all false
set_option maxRecDepth 100000
set_option maxHeartbeats 4000000
namespace Sm
open PySem L2
def top (i : Nat) : Stmt := PySem.Challenge.pw_satchelmeet_k35_whole_no_more_can_be_sen.main.body.getD i (.Pass ⟨0, 0, 0, 0⟩)
abbrev s__law_purse : Stmt := top 3
abbrev s__law_take : Stmt := top 4
abbrev s_Stream___init__ : Stmt := inClass (top 1) 0
abbrev s_Stream_tie : Stmt := inClass (top 1) 1
abbrev s_Stream_sent : Stmt := inClass (top 1) 3
abbrev s_Stream_came_to : Stmt := inClass (top 1) 5
abbrev s_Stream_sent_along : Stmt := inClass (top 1) 6
abbrev s_Stream_send : Stmt := inClass (top 1) 2
abbrev s_Stream_near : Stmt := inClass (top 1) 4
abbrev s__law_ties : Stmt := top 5
abbrev s__law_ends : Stmt := top 6
abbrev s__law_tied : Stmt := top 7
abbrev s__law_met : Stmt := top 8
abbrev s__law_shown : Stmt := top 9
abbrev s_law : Stmt := top 10
set_option genInjectivity false
set_option genSizeOf false
structure Ad where
  a__law_purse : Addr
  d__law_purse : FuncData
  a__law_take : Addr
  d__law_take : FuncData
  a_Stream___init__ : Addr
  d_Stream___init__ : FuncData
  a_Stream_tie : Addr
  d_Stream_tie : FuncData
  a_Stream_sent : Addr
  d_Stream_sent : FuncData
  a_Stream_came_to : Addr
  d_Stream_came_to : FuncData
  a_Stream_sent_along : Addr
  d_Stream_sent_along : FuncData
  a_Stream_send : Addr
  d_Stream_send : FuncData
  a_Stream_near : Addr
  d_Stream_near : FuncData
  a__law_ties : Addr
  d__law_ties : FuncData
  a__law_ends : Addr
  d__law_ends : FuncData
  a__law_tied : Addr
  d__law_tied : FuncData
  a__law_met : Addr
  d__law_met : FuncData
  a__law_shown : Addr
  d__law_shown : FuncData
  a_law : Addr
  d_law : FuncData
  c_Stream : Addr
structure Tx (K : PySem.W.Frag) (mg : Str → Option Value) (a : Ad) : Prop where
  F__law_purse : Fun K "_law_purse" "_law_purse" s__law_purse a.a__law_purse a.d__law_purse
  i__law_purse : Binds K a.d__law_purse ["_law_script", "_law_k"] []
  m__law_purse : mg "_law_purse" = some (.ref a.a__law_purse)
  k__law_purse : PySem.W.keepIn K (.ref a.a__law_purse) = true
  F__law_take : Fun K "_law_take" "_law_take" s__law_take a.a__law_take a.d__law_take
  i__law_take : Binds K a.d__law_take ["_law_purse_here", "_law_many"] []
  m__law_take : mg "_law_take" = some (.ref a.a__law_take)
  k__law_take : PySem.W.keepIn K (.ref a.a__law_take) = true
  F_Stream___init__ : Fun K "__init__" "Stream.__init__" s_Stream___init__ a.a_Stream___init__ a.d_Stream___init__
  i_Stream___init__ : Binds K a.d_Stream___init__ ["self", "many"] []
  M_Stream___init__ : Meth K a.c_Stream "__init__" a.a_Stream___init__
  k_Stream___init__ : PySem.W.keepIn K (.ref a.a_Stream___init__) = true
  F_Stream_tie : Fun K "tie" "Stream.tie" s_Stream_tie a.a_Stream_tie a.d_Stream_tie
  i_Stream_tie : Binds K a.d_Stream_tie ["self", "here", "there", "most"] []
  M_Stream_tie : Meth K a.c_Stream "tie" a.a_Stream_tie
  k_Stream_tie : PySem.W.keepIn K (.ref a.a_Stream_tie) = true
  F_Stream_sent : Fun K "sent" "Stream.sent" s_Stream_sent a.a_Stream_sent a.d_Stream_sent
  i_Stream_sent : Binds K a.d_Stream_sent ["self", "tie"] []
  M_Stream_sent : Meth K a.c_Stream "sent" a.a_Stream_sent
  k_Stream_sent : PySem.W.keepIn K (.ref a.a_Stream_sent) = true
  F_Stream_came_to : Fun K "came_to" "Stream.came_to" s_Stream_came_to a.a_Stream_came_to a.d_Stream_came_to
  i_Stream_came_to : Binds K a.d_Stream_came_to ["self", "goal"] []
  M_Stream_came_to : Meth K a.c_Stream "came_to" a.a_Stream_came_to
  k_Stream_came_to : PySem.W.keepIn K (.ref a.a_Stream_came_to) = true
  F_Stream_sent_along : Fun K "sent_along" "Stream.sent_along" s_Stream_sent_along a.a_Stream_sent_along a.d_Stream_sent_along
  i_Stream_sent_along : Binds K a.d_Stream_sent_along ["self", "came", "goal"] []
  M_Stream_sent_along : Meth K a.c_Stream "sent_along" a.a_Stream_sent_along
  k_Stream_sent_along : PySem.W.keepIn K (.ref a.a_Stream_sent_along) = true
  F_Stream_send : Fun K "send" "Stream.send" s_Stream_send a.a_Stream_send a.d_Stream_send
  i_Stream_send : Binds K a.d_Stream_send ["self", "source", "goal"] []
  M_Stream_send : Meth K a.c_Stream "send" a.a_Stream_send
  k_Stream_send : PySem.W.keepIn K (.ref a.a_Stream_send) = true
  F_Stream_near : Fun K "near" "Stream.near" s_Stream_near a.a_Stream_near a.d_Stream_near
  i_Stream_near : Binds K a.d_Stream_near ["self"] []
  M_Stream_near : Meth K a.c_Stream "near" a.a_Stream_near
  k_Stream_near : PySem.W.keepIn K (.ref a.a_Stream_near) = true
  F__law_ties : Fun K "_law_ties" "_law_ties" s__law_ties a.a__law_ties a.d__law_ties
  i__law_ties : Binds K a.d__law_ties ["_law_script", "_law_many", "_law_first"] []
  m__law_ties : mg "_law_ties" = some (.ref a.a__law_ties)
  k__law_ties : PySem.W.keepIn K (.ref a.a__law_ties) = true
  F__law_ends : Fun K "_law_ends" "_law_ends" s__law_ends a.a__law_ends a.d__law_ends
  i__law_ends : Binds K a.d__law_ends ["_law_script", "_law_k"] []
  m__law_ends : mg "_law_ends" = some (.ref a.a__law_ends)
  k__law_ends : PySem.W.keepIn K (.ref a.a__law_ends) = true
  F__law_tied : Fun K "_law_tied" "_law_tied" s__law_tied a.a__law_tied a.d__law_tied
  i__law_tied : Binds K a.d__law_tied ["_law_streams", "_law_ties_of"] []
  m__law_tied : mg "_law_tied" = some (.ref a.a__law_tied)
  k__law_tied : PySem.W.keepIn K (.ref a.a__law_tied) = true
  F__law_met : Fun K "_law_met" "_law_met" s__law_met a.a__law_met a.d__law_met
  i__law_met : Binds K a.d__law_met ["_law_source", "_law_many", "_law_ties_here", "_law_sent"] []
  m__law_met : mg "_law_met" = some (.ref a.a__law_met)
  k__law_met : PySem.W.keepIn K (.ref a.a__law_met) = true
  F__law_shown : Fun K "_law_shown" "_law_shown" s__law_shown a.a__law_shown a.d__law_shown
  i__law_shown : Binds K a.d__law_shown ["_law_stream", "_law_ends_here", "_law_ties_here", "_law_total"] []
  m__law_shown : mg "_law_shown" = some (.ref a.a__law_shown)
  k__law_shown : PySem.W.keepIn K (.ref a.a__law_shown) = true
  F_law : Fun K "law" "law" s_law a.a_law a.d_law
  i_law : Binds K a.d_law ["_law_script"] []
  m_law : mg "law" = some (.ref a.a_law)
  k_law : PySem.W.keepIn K (.ref a.a_law) = true
  b_all : mg "all" = none
  b_bool : mg "bool" = none
  b_isinstance : mg "isinstance" = none
  b_len : mg "len" = none
  b_list : mg "list" = none
  b_max : mg "max" = none
  b_min : mg "min" = none
  b_range : mg "range" = none
  m_Stream : mg "Stream" = some (.ref a.c_Stream)
  L_Stream : Cls K a.c_Stream
  Y_Stream : L2.Mk K a.c_Stream a.a_Stream___init__
  n_Stream_source : NoAttr K a.c_Stream "source"
  n_Stream_arcs : NoAttr K a.c_Stream "arcs"
  n_Stream_ends : NoAttr K a.c_Stream "ends"
  n_Stream_spare : NoAttr K a.c_Stream "spare"
section
variable {P : Program} {w : World} {K : PySem.W.Frag} {mg : Str → Option Value} {base : Heap} {a : Ad}
theorem sc__law_purse : FnScope ["_law_script", "_law_k", "_law_cell", "_law_left"] ["_law_script", "_law_k"] (defScope s__law_purse) := ⟨rfl, rfl, rfl, by decide +kernel, rfl, by decide +kernel, by decide +kernel⟩
theorem ok__law_purse (T : Tx K mg a) : FnOk P w K mg base CX0 1 a.a__law_purse a.d__law_purse ["_law_script", "_law_k"] (spPurse K) := by
  refine T.F__law_purse.ok sc__law_purse (fun vs H Q E h => ?_) (fun cdv A outer s H vs Q E hr h => ?_)
  · obtain ⟨a, ns, k, rfl, _⟩ := h; rfl
  · have nd := sc__law_purse.nd
    have hu := hr.units
    obtain ⟨sa, ns, k, rfl, hS, hk, q⟩ := h
    refine ⟨_, (@bl_out _ _ _ (@bl_c _ _ _ _ _ _ (ps_set (i := 2) nd rfl (by first | exact Or.inl rfl | exact Or.inr rfl) pe_int) (@bl_c _ _ _ _ _ _ (@ps_if _ _ _ _ _ _ _ _ (@pt_cmpR _ _ _ _ _ _ _ _ op_lt (pv 1) (pe_callB (call_len_seq' rfl) (by rfl) T.b_len PySem.boot_len (@pa_out _ _ _ (@pa_c _ _ _ _ _ (pv 0) pa_n rfl))) (nomark _)) (@bl_out _ _ _ (@bl_1 _ _ _ (ps_set (i := 2) nd rfl (by first | exact Or.inl rfl | exact Or.inr rfl) (@pe_ix _ _ _ _ _ _ _ (ix_list' rfl) (pv 0) (pv 1) (fun _ _ => rfl))))) pss_nil) (@bl_c _ _ _ _ _ _ (ps_set (i := 3) nd rfl (by first | exact Or.inl rfl | exact Or.inr rfl) pe_int) (@bl_c _ _ _ _ _ _ (@ps_if _ _ _ _ _ _ _ _ (@pt_cmpR _ _ _ _ _ _ _ _ op_lt (pv 2) pe_int (nomark _)) (@bl_out _ _ _ (@bl_1 _ _ _ (ps_set (i := 3) nd rfl (by first | exact Or.inl rfl | exact Or.inr rfl) (@pe_op _ _ _ _ _ _ _ _ op_sub (@pe_un _ _ _ _ _ _ un_neg pe_int) (pv 2))))) pss_nil) (@bl_c _ _ _ _ _ _ (@ps_if _ _ _ _ _ _ _ _ (@pt_cmpR _ _ _ _ _ _ _ _ op_ge (pv 2) (@pe_op _ _ _ _ _ _ _ _ op_pow pe_int pe_int) (nomark _)) (@bl_out _ _ _ (@bl_1 _ _ _ (ps_set (i := 3) nd rfl (by first | exact Or.inl rfl | exact Or.inr rfl) (pv 2)))) pss_nil) (@bl_1 _ _ _ (@ps_ret _ _ _ _ (@pe_lst _ _ _ _ (@pa_out _ _ _ (@pa_c _ _ _ _ _ (pv 3) (@pa_c _ _ _ _ _ (@pe_op _ _ _ _ _ _ _ _ op_mod (@pe_op _ _ _ _ _ _ _ _ op_add (@pe_op _ _ _ _ _ _ _ _ op_add (@pe_op _ _ _ _ _ _ _ _ op_mul (pv 2) pe_int) (@pe_op _ _ _ _ _ _ _ _ op_mul (pv 1) pe_int)) pe_int) pe_int) (@pa_c _ _ _ _ _ pe_int pa_n rfl) rfl) rfl))))))))))), ?_⟩
    have c18 : CPow 10 18 := ⟨by decide, by decide, by decide⟩
    have s3 : 3 ≤ sizeLine := by rw [sizeLine_eq]; decide
    have fin : ∀ (x y : Int) p, H p = none → Q (.ref p) (upd H p (.lst [.int x, .int y, .int 0])) := fun x y p hp => q p _ hp ⟨x, y, 0, upd_same⟩ (same_new hp)
    have c69 : ∀ x : Int, CMul x 69 := fun x => .inr ⟨by decide, by decide⟩
    have c405 : ∀ x : Int, CMul x 40503 := fun x => .inr ⟨by decide, by decide⟩
    refine (zr rfl (zr rfl ⟨sa, zr rfl ⟨.inl hS, zr2 rfl rfl (zr rfl (iteN (fun σ H1 => ∃ c : Int, σ = [some (.ref sa), some (.int k), some (.int c), none] ∧ H = H1) ?_ (fun c k0 => ?_) (fun c => ⟨0, rfl, rfl⟩)))⟩⟩))
    · rintro σ H1 ⟨c, rfl, rfl⟩
      refine (zr rfl (zr2 rfl rfl (zr rfl (iteN (fun σ H1 => ∃ d : Int, σ = [some (.ref sa), some (.int k), some (.int c), some (.int d)] ∧ H = H1) ?_ (fun z k0 => ?_) (fun z => ⟨0, rfl, rfl⟩)))))
      · rintro σ H1 ⟨d, rfl, rfl⟩
        refine (zr rfl (zr2 rfl rfl ⟨c18, zr2 rfl rfl (zr rfl (iteN (fun σ H1 => ∃ d : Int, σ = [some (.ref sa), some (.int k), some (.int c), some (.int d)] ∧ H = H1) ?_ (fun z k0 => (zr rfl (k0 _ _ ⟨c, rfl, rfl⟩))) (fun z => ⟨d, rfl, rfl⟩)))⟩))
        rintro σ H1 ⟨d, rfl, rfl⟩
        exact (zr rfl (zr rfl (zr2 rfl rfl ⟨c69 _, zr rfl (zr2 rfl rfl ⟨c405 _, zr2 rfl rfl (zr2 rfl rfl (zr2 rfl rfl ⟨(by show (0 : Int) < 2147483647; decide), s3, fin _ _⟩))⟩)⟩)))
      · exact (zr rfl (zr rfl (zr2 rfl rfl (k0 _ _ (zr rfl rfl)))))
    · have hk2 : k < ns.length := by
        have := of_decide_eq_true c
        rw [List.length_map] at this; omega
      exact (zr rfl (zr rfl ⟨sa, _, zr2 rfl rfl ⟨hS, atI_nat (v := V.int ns[k]) (by simp [hk2]), k0 _ _ (zr rfl rfl)⟩⟩))
theorem sc__law_take : FnScope ["_law_purse_here", "_law_many", "_law_digit", "_law_mixed"] ["_law_purse_here", "_law_many"] (defScope s__law_take) := ⟨rfl, rfl, rfl, by decide +kernel, rfl, by decide +kernel, by decide +kernel⟩
theorem ok__law_take (T : Tx K mg a) : FnOk P w K mg base CX0 1 a.a__law_take a.d__law_take ["_law_purse_here", "_law_many"] (spTake) := by
  refine T.F__law_take.ok sc__law_take (fun vs H Q E h => ?_) (fun cdv A outer s H vs Q E hr h => ?_)
  · obtain ⟨p, n, rfl, _⟩ := h; rfl
  · have nd := sc__law_take.nd
    have hu := hr.units
    obtain ⟨p, n, rfl, n0, n1, ⟨x, y, z, hp⟩, q⟩ := h
    refine ⟨_, (@bl_out _ _ _ (@bl_c _ _ _ _ _ _ (@ps_if _ _ _ _ _ _ _ _ (@pt_cmpR _ _ _ _ _ _ _ _ op_gt (@pe_ix _ _ _ _ _ _ _ (ix_list' rfl) (pv 0) pe_int (fun _ _ => rfl)) pe_int (nomark _)) (@bl_out _ _ _ (@bl_c _ _ _ _ _ _ (ps_set (i := 2) nd rfl (by first | exact Or.inl rfl | exact Or.inr rfl) (@pe_op _ _ _ _ _ _ _ _ op_mod (@pe_ix _ _ _ _ _ _ _ (ix_list' rfl) (pv 0) pe_int (fun _ _ => rfl)) (pv 1))) (@bl_c _ _ _ _ _ _ (ps_asg (@pe_op _ _ _ _ _ _ _ _ op_fdivB (@pe_ix _ _ _ _ _ _ _ (ix_list' rfl) (pv 0) pe_int (fun _ _ => rfl)) (pv 1)) (pg_sub (pv 0) pe_int set_list)) (@bl_1 _ _ _ (@ps_ret _ _ _ _ (pv 2)))))) pss_nil) (@bl_c _ _ _ _ _ _ (ps_augS (pv 0) pe_int (get_list rfl) pe_int ip_add set_list) (@bl_c _ _ _ _ _ _ (ps_set (i := 3) nd rfl (by first | exact Or.inl rfl | exact Or.inr rfl) (@pe_op _ _ _ _ _ _ _ _ op_mod (@pe_op _ _ _ _ _ _ _ _ op_mul (@pe_op _ _ _ _ _ _ _ _ op_add (@pe_ix _ _ _ _ _ _ _ (ix_list' rfl) (pv 0) pe_int (fun _ _ => rfl)) (@pe_op _ _ _ _ _ _ _ _ op_mul (@pe_ix _ _ _ _ _ _ _ (ix_list' rfl) (pv 0) pe_int (fun _ _ => rfl)) pe_int)) pe_int) pe_int)) (@bl_c _ _ _ _ _ _ (ps_set (i := 3) nd rfl (by first | exact Or.inl rfl | exact Or.inr rfl) (@pe_op _ _ _ _ _ _ _ _ op_mod (@pe_op _ _ _ _ _ _ _ _ op_add (@pe_op _ _ _ _ _ _ _ _ op_add (@pe_op _ _ _ _ _ _ _ _ op_mul (pv 3) (pv 3)) (@pe_op _ _ _ _ _ _ _ _ op_mul (@pe_ix _ _ _ _ _ _ _ (ix_list' rfl) (pv 0) pe_int (fun _ _ => rfl)) pe_int)) (@pe_ix _ _ _ _ _ _ _ (ix_list' rfl) (pv 0) pe_int (fun _ _ => rfl))) pe_int)) (@bl_1 _ _ _ (@ps_ret _ _ _ _ (@pe_op _ _ _ _ _ _ _ _ op_mod (@pe_op _ _ _ _ _ _ _ _ op_fdivB (@pe_op _ _ _ _ _ _ _ _ op_mod (@pe_op _ _ _ _ _ _ _ _ op_mul (pv 3) pe_int) pe_int) pe_int) (pv 1))))))))), ?_⟩
    have hS : SqL K H p _ := SqL.of hp
    have cm : ∀ x c : Int, -(2 ^ 64) < c → c < 2 ^ 64 → CMul x c := fun x c h h' => .inr ⟨h, h'⟩
    refine (zr rfl ⟨p, _, zr2 rfl rfl ⟨hS, rfl, zr2 rfl rfl (zr rfl (iteD (fun h1 => ?_) fun h1 => ?_))⟩⟩)
    · refine (zr rfl ⟨p, _, zr2 rfl rfl ⟨hS, rfl, zr rfl (zr2 rfl rfl ⟨n0, ?_⟩)⟩⟩)
      refine (zr rfl ⟨p, _, zr2 rfl rfl ⟨hS, rfl, zr rfl (zr2 rfl rfl ⟨⟨n0, n1⟩, zr rfl ⟨p, _, _, 0, rfl, rfl, hp, rfl, ?_⟩⟩)⟩⟩)
      exact (zr rfl (q _ _ (Int.emod_nonneg _ (by omega)) (Int.emod_lt_of_pos _ n0) ⟨But.set, _, _, _, upd_same⟩))
    · refine (zr rfl ⟨p, _, zr2 rfl rfl ⟨hS, rfl, zr2 rfl rfl ⟨p, _, _, 2, rfl, rfl, hp, rfl, ?_⟩⟩⟩)
      have h2 : (upd H p (HO.lst ([V.int x, V.int y, V.int z].set 2 (.int (z + 1))))) p = some (.lst [V.int x, V.int y, V.int (z + 1)]) := upd_same
      have b2 : But p H (upd H p (HO.lst ([V.int x, V.int y, V.int z].set 2 (.int (z + 1))))) := But.set
      generalize upd H p (HO.lst ([V.int x, V.int y, V.int z].set 2 (.int (z + 1)))) = H2 at h2 b2 ⊢
      have hS2 : SqL K H2 p _ := SqL.of h2
      have big : (2147483647 : Int) < 2 ^ 64 := by decide
      have low : -(2 : Int) ^ 64 < 0 := by decide
      have pos : (0 : Int) < 2147483647 := by decide
      refine (zr rfl ⟨p, _, zr2 rfl rfl ⟨hS2, rfl, zr rfl ⟨p, _, zr2 rfl rfl ⟨hS2, rfl, zr2 rfl rfl ⟨cm _ _ (by decide) (by decide), zr2 rfl rfl (zr2 rfl rfl ⟨cm _ _ (by decide) (by decide), zr2 rfl rfl ⟨(by show (0 : Int) < 2147483647; decide), ?_⟩⟩)⟩⟩⟩⟩⟩)
      have m0 := Int.emod_nonneg ((y + (z + 1) * 362437) * 48271) (show (2147483647 : Int) ≠ 0 by decide)
      have m1 := Int.emod_lt_of_pos ((y + (z + 1) * 362437) * 48271) pos
      refine (zr rfl (zr rfl (zr2 rfl rfl ⟨.inl ⟨Int.lt_of_lt_of_le low m0, Int.lt_trans m1 big⟩, zr rfl ⟨p, _, zr2 rfl rfl ⟨hS2, rfl, zr2 rfl rfl ⟨cm _ _ (by decide) (by decide), zr2 rfl rfl (zr rfl ⟨p, _, zr2 rfl rfl ⟨hS2, rfl, zr2 rfl rfl (zr2 rfl rfl ⟨(by show (0 : Int) < 2147483629; decide), ?_⟩)⟩⟩)⟩⟩⟩⟩)))
      refine (zr rfl (zr2 rfl rfl ⟨cm _ _ (by decide) (by decide), zr2 rfl rfl ⟨(by show (0 : Int) < 2147483563; decide), zr2 rfl rfl ⟨⟨by decide, by decide⟩, zr rfl (zr2 rfl rfl ⟨n0, ?_⟩)⟩⟩⟩))
      exact q _ _ (Int.emod_nonneg _ (by omega)) (Int.emod_lt_of_pos _ n0) ⟨b2, _, _, _, h2⟩
theorem sc_Stream___init__ : FnScope ["self", "many"] ["self", "many"] (defScope s_Stream___init__) := ⟨rfl, rfl, rfl, by decide +kernel, rfl, by decide +kernel, by decide +kernel⟩
theorem ok_Stream___init__ (T : Tx K mg a) : FnOk P w K mg base CX0 1 a.a_Stream___init__ a.d_Stream___init__ ["self", "many"] (spInitS a.c_Stream) := by
  refine T.F_Stream___init__.ok sc_Stream___init__ (fun vs H Q E h => ?_) (fun cdv A outer s H vs Q E hr h => ?_)
  · obtain ⟨_, _, _, rfl, _⟩ := h; rfl
  · have nd := sc_Stream___init__.nd
    have hu := hr.units
    obtain ⟨x, dx, n, rfl, hx, n3, q⟩ := h
    refine ⟨_, (@bl_out _ _ _ (@bl_c _ _ _ _ _ _ (ps_fld (pv 0) pe_int rfl) (@bl_c _ _ _ _ _ _ (ps_fld (pv 0) (pe_comp (own := ["point"]) (caps := []) rfl (show CompScope ["point"] [] ["self", "many"] (defScope s_Stream___init__) _ from ⟨rfl, by decide +kernel, by decide +kernel, by decide +kernel, by decide +kernel⟩) (pi_range1 rfl T.b_range (@pa_out _ _ _ (@pa_c _ _ _ _ _ (pv 1) pa_n rfl))) (fun _ _ _ _ => (pg_name (i := 0) (show List.Nodup (["point"] : List Str) from by decide +kernel) rfl (by first | exact Or.inl rfl | exact Or.inr rfl))) (fun _ _ _ _ => pts_nil) (fun _ _ _ _ => (@pe_lst _ _ _ _ pa_nil))) rfl) (@bl_c _ _ _ _ _ _ (ps_fld (pv 0) (@pe_lst _ _ _ _ pa_nil) rfl) (@bl_1 _ _ _ (ps_fld (pv 0) (@pe_lst _ _ _ _ pa_nil) rfl)))))), ?_⟩
    have line : 8000 ≤ sizeLine := by rw [sizeLine_eq]; decide
    refine (zr rfl ⟨x, _, dx, zr rfl ⟨hx, T.L_Stream, T.n_Stream_source, by decide, ?_⟩⟩)
    have b1 : But x H (upd H x (.ins a.c_Stream dx [("source", .int 0)])) := But.set
    have i1 : upd H x (.ins a.c_Stream dx [("source", .int 0)]) x = some (.ins a.c_Stream dx [("source", .int 0)]) := upd_same
    show tSeq _ _ _ _ (upd H x (.ins a.c_Stream dx [("source", .int 0)]))
    generalize upd H x (.ins a.c_Stream dx [("source", .int 0)]) = H1 at b1 i1 ⊢
    refine (zr rfl ⟨(n : Int), rfl, by omega, by omega, ?_⟩)
    refine comp_rangeB (lo := 0) (m := n) (fun i τ acc H5 => ∃ rs : List Addr, (∃ t0, τ = [t0]) ∧ acc = rs.map V.ref ∧ rs.length = i ∧ Same H1 H5 ∧ rs.Nodup ∧ ∀ r ∈ rs, H1 r = none ∧ H5 r = some (.lst [])) ⟨[], ⟨_, rfl⟩, rfl, rfl, Same.refl _, .nil, fun _ h => nomatch h⟩ (by omega) ?_ ?_ ?_
    · rintro i τ acc H5 ⟨rs, _, rfl, rfl, _⟩
      rw [List.length_map]; exact Nat.le_refl _
    · rintro i τ acc H5 C hi ⟨rs, ⟨t0, rfl⟩, rfl, rfl, s1, nd, hr⟩ hC
      refine ⟨by show 0 ≤ _; omega, fun p hp => ?_⟩
      refine hC _ _ _ ⟨rs ++ [p], ⟨_, rfl⟩, by rw [List.map_append]; rfl, by rw [List.length_append]; rfl, s1.trans (same_new hp), ?_, fun r hr' => ?_⟩
      · exact List.nodup_append.mpr ⟨nd, List.nodup_cons.mpr ⟨by simp, .nil⟩, fun b hb c hc => by rw [List.mem_singleton.mp hc]; exact ne_of_none (hr b hb).2 hp⟩
      · rcases List.mem_append.mp hr' with h | h
        · exact ⟨(hr r h).1, by rw [upd_ne (ne_of_none (hr r h).2 hp)]; exact (hr r h).2⟩
        · rw [List.mem_singleton.mp h]; exact ⟨s1.free hp, upd_same⟩
    · rintro τ acc H5 ⟨rs, _, rfl, hl, s1, nd, hr⟩ lA hA
      have s2 : Same H5 (upd H5 lA (.lst (rs.map V.ref))) := same_new hA
      have a2 : upd H5 lA (.lst (rs.map V.ref)) lA = some (.lst (rs.map V.ref)) := upd_same
      have fA := s1.free hA
      have nA : lA ∉ rs := fun h => ne_of_none (hr _ h).2 hA rfl
      generalize upd H5 lA (.lst (rs.map V.ref)) = H2 at s2 a2 ⊢
      have hr2 : ∀ r ∈ rs, H2 r = some (.lst []) := fun r h => s2 _ _ (hr r h).2
      have s2 := s1.trans s2
      have i2 := s2 _ _ i1
      have xA : lA ≠ x := Ne.symm (ne_of_none i1 fA)
      have xr : ∀ r ∈ rs, r ≠ x := fun r h => Ne.symm (ne_of_none i1 (hr r h).1)
      refine (zr rfl ⟨x, _, dx, zr rfl ⟨i2, T.L_Stream, T.n_Stream_arcs, by decide, ?_⟩⟩)
      have b3 : But x H2 (upd H2 x (.ins a.c_Stream dx [("source", .int 0), ("arcs", .ref lA)])) := But.set
      have i3 : upd H2 x (.ins a.c_Stream dx [("source", .int 0), ("arcs", .ref lA)]) x = some (.ins a.c_Stream dx [("source", .int 0), ("arcs", .ref lA)]) := upd_same
      show tSeq _ _ _ _ (upd H2 x (.ins a.c_Stream dx [("source", .int 0), ("arcs", .ref lA)]))
      generalize upd H2 x _ = H3 at b3 i3 ⊢
      have a3 := b3 _ _ xA a2
      have hr3 : ∀ r ∈ rs, H3 r = some (.lst []) := fun r h => b3 _ _ (xr r h) (hr2 r h)
      have c3 : But x H H3 := (b1.trans (Same.but s2)).trans b3
      refine ⟨by show 0 ≤ _; omega, fun lE hE => ?_⟩
      have s4 : Same H3 (upd H3 lE (.lst [])) := same_new hE
      have e4 : upd H3 lE (.lst []) lE = some (.lst []) := upd_same
      generalize upd H3 lE _ = H4 at s4 e4 ⊢
      have xE : lE ≠ x := Ne.symm (ne_of_none i3 hE)
      have nE : lE ∉ rs := fun h => ne_of_none (hr3 _ h) hE rfl
      have AE : lA ≠ lE := ne_of_none a3 hE
      refine (zr rfl ⟨x, _, dx, zr rfl ⟨s4 _ _ i3, T.L_Stream, T.n_Stream_ends, by show 2 < 1000; decide, ?_⟩⟩)
      have b5 : But x H4 (upd H4 x (.ins a.c_Stream dx [("source", .int 0), ("arcs", .ref lA), ("ends", .ref lE)])) := But.set
      have i5 : upd H4 x (.ins a.c_Stream dx [("source", .int 0), ("arcs", .ref lA), ("ends", .ref lE)]) x = some (.ins a.c_Stream dx [("source", .int 0), ("arcs", .ref lA), ("ends", .ref lE)]) := upd_same
      have ep : putF "ends" (.ref lE) [("source", .int 0), ("arcs", .ref lA)] = ([("source", .int 0), ("arcs", .ref lA), ("ends", .ref lE)] : List (Str × V)) := by rw [putF, if_neg (by decide), putF, if_neg (by decide), putF]
      rw [ep]
      generalize upd H4 x _ = H6 at b5 i5 ⊢
      have b6 : But x H3 H6 := But.trans (Same.but s4) b5
      refine ⟨by show 0 ≤ _; omega, fun lS hS => ?_⟩
      have s7 : Same H6 (upd H6 lS (.lst [])) := same_new hS
      have e7 : upd H6 lS (.lst []) lS = some (.lst []) := upd_same
      generalize upd H6 lS _ = H7 at s7 e7 ⊢
      have xS : lS ≠ x := Ne.symm (ne_of_none i5 hS)
      have nS : lS ∉ rs := fun h => ne_of_none (b6 _ _ (xr _ h) (hr3 _ h)) hS rfl
      have AS : lA ≠ lS := ne_of_none (b6 _ _ xA a3) hS
      have ES : lE ≠ lS := ne_of_none (b5 _ _ xE e4) hS
      have b7 : But x H6 (upd H7 x (.ins a.c_Stream dx [("source", .int 0), ("arcs", .ref lA), ("ends", .ref lE), ("spare", .ref lS)])) := But.trans (Same.but s7) But.set
      refine (zr rfl ⟨x, _, dx, zr rfl ⟨s7 _ _ i5, T.L_Stream, T.n_Stream_spare, by show 3 < 1000; decide, q lA lE lS rs _ (c3.trans (b6.trans b7)) ⟨⟨upd_same, b7 _ _ xA (b6 _ _ xA a3), fun p r hp => b7 _ _ (xr r (List.mem_of_getElem? hp)) (b6 _ _ (xr r (List.mem_of_getElem? hp)) (hr3 r (List.mem_of_getElem? hp))), b7 _ _ xE (b5 _ _ xE e4), by rw [upd_ne xS]; exact e7, ?_⟩, hl, (fun _ h => by cases h), ⟨rfl, (fun a h => absurd h (by simp)), (fun k x h => by cases h)⟩, n3, by show 0 ≤ 3000; decide⟩ ?_⟩⟩)
      · exact List.nodup_cons.mpr ⟨by simp [AE, AS, nA], List.nodup_cons.mpr ⟨by simp [ES, nE], List.nodup_cons.mpr ⟨nS, nd⟩⟩⟩
      · intro b hb
        rcases List.mem_cons.mp hb with rfl | hb
        · exact b1.free xA fA
        rcases List.mem_cons.mp hb with rfl | hb
        · exact c3.free xE hE
        rcases List.mem_cons.mp hb with rfl | hb
        · exact (c3.trans b6).free xS hS
        exact b1.free (xr b hb) (hr b hb).1
theorem sc_Stream_tie : FnScope ["self", "here", "there", "most", "number"] ["self", "here", "there", "most"] (defScope s_Stream_tie) := ⟨rfl, rfl, rfl, by decide +kernel, rfl, by decide +kernel, by decide +kernel⟩
theorem ok_Stream_tie (T : Tx K mg a) : FnOk P w K mg base CX0 1 a.a_Stream_tie a.d_Stream_tie ["self", "here", "there", "most"] (spTieS a.c_Stream) := by
  refine T.F_Stream_tie.ok sc_Stream_tie (fun vs H Q E h => ?_) (fun cdv A outer s H vs Q E hr h => ?_)
  · obtain ⟨_, _, _, _, _, _, _, _, _, _, _, _, _, rfl, _⟩ := h; rfl
  · have nd := sc_Stream_tie.nd
    have hu := hr.units
    obtain ⟨x, dx, lA, lE, lS, as, src, n, ts, sp, h0, t0, m0, rfl, st, hh, ht, hm, hl, q⟩ := h
    refine ⟨_, (@bl_out _ _ _ (@bl_c _ _ _ _ _ _ (ps_set (i := 4) nd rfl (by first | exact Or.inl rfl | exact Or.inr rfl) (@pe_op _ _ _ _ _ _ _ _ op_fdivB (pe_callB (call_len_seq' rfl) (by rfl) T.b_len PySem.boot_len (@pa_out _ _ _ (@pa_c _ _ _ _ _ (pe_fld (pv 0) rfl) pa_n rfl))) pe_int)) (@bl_c _ _ _ _ _ _ (ps_expr (pe_bm PySem.F.plainAttrs_list PySem.F.slot_list_append PySem.F.type_list_append mt_append (@pe_ix _ _ _ _ _ _ _ (ix_list' rfl) (pe_fld (pv 0) rfl) (pv 1) (fun _ _ => rfl)) (@pa_out _ _ _ (@pa_c _ _ _ _ _ (@pe_op _ _ _ _ _ _ _ _ op_mul pe_int (pv 4)) pa_n rfl)))) (@bl_c _ _ _ _ _ _ (ps_expr (pe_bm PySem.F.plainAttrs_list PySem.F.slot_list_append PySem.F.type_list_append mt_append (@pe_ix _ _ _ _ _ _ _ (ix_list' rfl) (pe_fld (pv 0) rfl) (pv 2) (fun _ _ => rfl)) (@pa_out _ _ _ (@pa_c _ _ _ _ _ (@pe_op _ _ _ _ _ _ _ _ op_add (@pe_op _ _ _ _ _ _ _ _ op_mul pe_int (pv 4)) pe_int) pa_n rfl)))) (@bl_c _ _ _ _ _ _ (ps_fldaug (pv 0) (@pe_lst _ _ _ _ (@pa_out _ _ _ (@pa_c _ _ _ _ _ (pv 2) (@pa_c _ _ _ _ _ (pv 1) pa_n rfl) rfl))) ip_cat) (@bl_c _ _ _ _ _ _ (ps_fldaug (pv 0) (@pe_lst _ _ _ _ (@pa_out _ _ _ (@pa_c _ _ _ _ _ (pv 3) (@pa_c _ _ _ _ _ pe_int pa_n rfl) rfl))) ip_cat) (@bl_1 _ _ _ (@ps_ret _ _ _ _ (pv 4))))))))), ?_⟩
    have line : 8000 ≤ sizeLine := by rw [sizeLine_eq]; decide
    have st0 := st.raw
    obtain ⟨lh, hlh⟩ : ∃ l, as[h0]? = some l := ⟨_, List.getElem?_eq_getElem (by rw [st.len]; exact hh)⟩
    obtain ⟨lt, hlt⟩ : ∃ l, as[t0]? = some l := ⟨_, List.getElem?_eq_getElem (by rw [st.len]; exact ht)⟩
    have e0 : (((endsOf ts).map V.int).length : Int) / 2 = (ts.length : Int) := by rw [List.length_map, endsOf_len]; omega
    have L8 := arcsTo_len (ts := ts) (p := h0) ts.length
    have L9 := arcsTo_len (ts := ts) (p := t0) ts.length
    refine (zr rfl ⟨x, _, dx, zr1 rfl ⟨st0.ins, T.L_Stream, T.n_Stream_ends, rfl, lE, zr rfl ⟨.inl (SqL.of st0.ends), zr2 rfl rfl ⟨⟨by decide, by decide⟩, ?_⟩⟩⟩⟩)
    show gName 4 (V.int (((((endsOf ts).map V.int).length : Nat) : Int) / 2)) _ _ _
    rw [e0]
    refine (zr rfl ⟨x, _, dx, zr1 rfl ⟨st0.ins, T.L_Stream, T.n_Stream_arcs, rfl, zr rfl ⟨lA, _, _, V.ref lh, rfl, rfl, SqL.of st0.arcs, atI_nat (by rw [List.getElem?_map, hlh]; rfl), .inl ⟨rfl, _, SqL.of (st0.rws _ _ hlh)⟩, zr rfl (zr2 rfl rfl ⟨.inl ⟨by decide, by decide⟩, lh, zr2 rfl rfl ⟨st0.rws _ _ hlh, by rw [List.length_map]; omega, ?_⟩⟩)⟩⟩⟩)
    have st1 := st0.app (z := 2 * (ts.length : Int)) hlh
    have k1 : KeptM (x :: lE :: lS :: as) H (upd H lh (.lst ((arcsTo ts h0 ts.length).map V.int ++ [V.int (2 * (ts.length : Int))]))) := KeptM.upd (.tail _ (.tail _ (.tail _ (List.mem_of_getElem? hlh))))
    generalize upd H lh _ = H1 at st1 k1 ⊢
    refine (zr rfl ⟨x, _, dx, zr1 rfl ⟨st1.ins, T.L_Stream, T.n_Stream_arcs, rfl, zr rfl ⟨lA, _, _, V.ref lt, rfl, rfl, SqL.of st1.arcs, atI_nat (by rw [List.getElem?_map, hlt]; rfl), .inl ⟨rfl, _, SqL.of (st1.rws _ _ hlt)⟩, zr rfl (zr2 rfl rfl ⟨.inl ⟨by decide, by decide⟩, zr2 rfl rfl ⟨lt, zr2 rfl rfl ⟨st1.rws _ _ hlt, by rw [List.length_map, List.length_append]; split <;> simp <;> omega, ?_⟩⟩⟩)⟩⟩⟩)
    have st2 := st1.app (z := 2 * (ts.length : Int) + 1) hlt
    have k2 : KeptM (x :: lE :: lS :: as) H1 (upd H1 lt (.lst ((arcsTo ts t0 ts.length ++ if h0 = t0 then [2 * (ts.length : Int)] else []).map V.int ++ [V.int (2 * (ts.length : Int) + 1)]))) := KeptM.upd (.tail _ (.tail _ (.tail _ (List.mem_of_getElem? hlt))))
    generalize upd H1 lt _ = H2 at st2 k2 ⊢
    have k2 := k1.trans k2
    refine (zr rfl ⟨x, _, dx, zr1 rfl ⟨st2.ins, T.L_Stream, T.n_Stream_ends, rfl, zr rfl (zr rfl ⟨by show 2 ≤ _; omega, fun b hb => ?_⟩)⟩⟩)
    have s3 : Same H2 (upd H2 b (.lst [V.int (t0 : Int), V.int (h0 : Int)])) := same_new hb
    have b3 : upd H2 b (.lst [V.int (t0 : Int), V.int (h0 : Int)]) b = some (.lst [V.int (t0 : Int), V.int (h0 : Int)]) := upd_same
    generalize upd H2 b _ = H3 at s3 b3 ⊢
    have st3 := st2.same s3
    have k3 := k2.trans (Same.keptM s3)
    refine ⟨lE, b, zr2 rfl rfl ⟨st3.ends, b3, by rw [List.length_map, endsOf_len]; show _ + 2 ≤ _; omega, ?_⟩⟩
    have st4 := st3.setE (es' := endsOf ts ++ [(t0 : Int), (h0 : Int)])
    have k4 : KeptM (x :: lE :: lS :: as) H3 (upd H3 lE (.lst ((endsOf ts ++ [(t0 : Int), (h0 : Int)]).map V.int))) := KeptM.upd (.tail _ (.head _))
    have e4 : HO.lst ((endsOf ts).map V.int ++ [V.int (t0 : Int), V.int (h0 : Int)]) = HO.lst ((endsOf ts ++ [(t0 : Int), (h0 : Int)]).map V.int) := by rw [List.map_append]; rfl
    rw [e4]
    generalize upd H3 lE _ = H4 at st4 k4 ⊢
    have k4 := k3.trans k4
    refine ⟨dx, _, st4.ins, by show 4 < 1000; decide, ?_⟩
    have st5 := st4.setX (src' := src)
    have k5 : KeptM (x :: lE :: lS :: as) H4 (upd H4 x (.ins a.c_Stream dx [("source", .int src), ("arcs", .ref lA), ("ends", .ref lE), ("spare", .ref lS)])) := KeptM.upd (.head _)
    show tSeq _ _ _ _ (upd H4 x (.ins a.c_Stream dx [("source", .int src), ("arcs", .ref lA), ("ends", .ref lE), ("spare", .ref lS)]))
    generalize upd H4 x _ = H5 at st5 k5 ⊢
    have k5 := k4.trans k5
    refine (zr rfl ⟨x, _, dx, zr1 rfl ⟨st5.ins, T.L_Stream, T.n_Stream_spare, rfl, zr rfl ⟨by show 2 ≤ _; omega, fun c hc => ?_⟩⟩⟩)
    have s6 : Same H5 (upd H5 c (.lst [V.int m0, V.int 0])) := same_new hc
    have b6 : upd H5 c (.lst [V.int m0, V.int 0]) c = some (.lst [V.int m0, V.int 0]) := upd_same
    generalize upd H5 c _ = H6 at s6 b6 ⊢
    have st6 := st5.same s6
    have k6 := k5.trans (Same.keptM s6)
    have ls := st.snd.len
    refine ⟨lS, c, zr2 rfl rfl ⟨st6.spr, b6, by rw [List.length_map, ls]; show _ + 2 ≤ _; omega, ?_⟩⟩
    have st7 := st6.setS (sp' := sp ++ [m0, 0])
    have k7 : KeptM (x :: lE :: lS :: as) H6 (upd H6 lS (.lst ((sp ++ [m0, 0]).map V.int))) := KeptM.upd (.tail _ (.tail _ (.head _)))
    have e7 : HO.lst (sp.map V.int ++ [V.int m0, V.int 0]) = HO.lst ((sp ++ [m0, 0]).map V.int) := by rw [List.map_append]; rfl
    rw [e7]
    generalize upd H6 lS _ = H7 at st7 k7 ⊢
    have k7 := k6.trans k7
    refine ⟨dx, _, st7.ins, by show 4 < 1000; decide, ?_⟩
    have st8 := st7.setX (src' := src)
    have k8 : KeptM (x :: lE :: lS :: as) H7 (upd H7 x (.ins a.c_Stream dx [("source", .int src), ("arcs", .ref lA), ("ends", .ref lE), ("spare", .ref lS)])) := KeptM.upd (.head _)
    refine (zr rfl ?_)
    refine q _ (k7.trans k8) ⟨?_, st.len, ?_, st.snd.snoc (x := ⟨h0, t0, m0⟩) hm, st.sz.1, by rw [List.length_append]; show _ + 1 ≤ _; omega⟩
    · have ef : (fun p => (arcsTo ts p ts.length ++ if h0 = p then [2 * (ts.length : Int)] else []) ++ if t0 = p then [2 * (ts.length : Int) + 1] else []) = fun p => arcsTo (ts ++ [(⟨h0, t0, m0⟩ : Tie)]) p (ts ++ [(⟨h0, t0, m0⟩ : Tie)]).length := by
        funext p
        rw [arcsTo_end, List.append_assoc]
        rfl
      rw [← ef, endsOf_snoc]
      exact st8
    · intro t h
      rcases List.mem_append.mp h with h | h
      · exact st.tin t h
      · rw [List.mem_singleton.mp h]; exact ⟨hh, ht⟩
theorem sc_Stream_sent : FnScope ["self", "tie"] ["self", "tie"] (defScope s_Stream_sent) := ⟨rfl, rfl, rfl, by decide +kernel, rfl, by decide +kernel, by decide +kernel⟩
theorem ok_Stream_sent (T : Tx K mg a) : FnOk P w K mg base CX0 1 a.a_Stream_sent a.d_Stream_sent ["self", "tie"] (spSentS a.c_Stream) := by
  refine T.F_Stream_sent.ok sc_Stream_sent (fun vs H Q E h => ?_) (fun cdv A outer s H vs Q E hr h => ?_)
  · obtain ⟨_, _, _, _, _, _, _, _, _, _, _, rfl, _⟩ := h; rfl
  · have nd := sc_Stream_sent.nd
    have hu := hr.units
    obtain ⟨x, dx, lA, lE, lS, as, src, n, ts, sp, k, rfl, st, hk, q⟩ := h
    refine ⟨_, (@bl_out _ _ _ (@bl_1 _ _ _ (@ps_ret _ _ _ _ (@pe_ix _ _ _ _ _ _ _ (ix_list' rfl) (pe_fld' rfl (pv 0) rfl) (@pe_op _ _ _ _ _ _ _ _ op_add (@pe_op _ _ _ _ _ _ _ _ op_mul pe_int (pv 1)) pe_int) (fun _ _ => rfl))))), ?_⟩
    have line : 8000 ≤ sizeLine := by rw [sizeLine_eq]; decide
    have e1 : (sp.map V.int)[2 * k + 1]? = some (V.int (at0 sp (2 * k + 1))) := map_at (at0_get (by rw [st.snd.len]; omega))
    exact (zr rfl ⟨x, _, dx, zr1 rfl ⟨st.raw.ins, T.L_Stream, T.n_Stream_spare, rfl, zr rfl (zr2 rfl rfl ⟨.inl ⟨by decide, by decide⟩, zr2 rfl rfl (ixl st.raw.spr (atI_nat (j := 2 * k + 1) e1) q)⟩)⟩⟩)
theorem sc_Stream_came_to : FnScope ["self", "goal", "came", "points", "place", "point", "arc", "end"] ["self", "goal"] (defScope s_Stream_came_to) := ⟨rfl, rfl, rfl, by decide +kernel, rfl, by decide +kernel, by decide +kernel⟩
theorem ok_Stream_came_to (T : Tx K mg a) : FnOk P w K mg base CX0 1 a.a_Stream_came_to a.d_Stream_came_to ["self", "goal"] (spCameS a.c_Stream) := by
  refine T.F_Stream_came_to.ok sc_Stream_came_to (fun vs H Q E h => ?_) (fun cdv A outer s H vs Q E hr h => ?_)
  · obtain ⟨_, _, _, _, _, _, _, _, _, _, _, rfl, _⟩ := h; rfl
  · have nd := sc_Stream_came_to.nd
    have hu := hr.units
    obtain ⟨x, dx, lA, lE, lS, as, src, n, ts, sp, g, rfl, st, hs, q⟩ := h
    refine ⟨_, (@bl_out _ _ _ (@bl_c _ _ _ _ _ _ (ps_set (i := 2) nd rfl (by first | exact Or.inl rfl | exact Or.inr rfl) (pe_disp (pps_cons (pe_fld (pv 0) rfl) pe_non pps_nil) rfl rfl (by intro h; cases h) (by decide))) (@bl_c _ _ _ _ _ _ (ps_set (i := 3) nd rfl (by first | exact Or.inl rfl | exact Or.inr rfl) (@pe_lst _ _ _ _ (@pa_out _ _ _ (@pa_c _ _ _ _ _ (pe_fld (pv 0) rfl) pa_n rfl)))) (@bl_c _ _ _ _ _ _ (ps_set (i := 4) nd rfl (by first | exact Or.inl rfl | exact Or.inr rfl) pe_int) (@bl_c _ _ _ _ _ _ (@ps_while _ _ _ _ _ _ PassesOwn.never (@PW.pt _ _ _ (@pw_and _ _ _ _ _ _ _ (@pt_cmpR _ _ _ _ _ _ _ _ op_lt (pv 4) (pe_callB (call_len_seq' rfl) (by rfl) T.b_len PySem.boot_len (@pa_out _ _ _ (@pa_c _ _ _ _ _ (pv 3) pa_n rfl))) (nomark _)) (@pw_and1 _ _ _ _ (@pt_cmpR _ _ _ _ _ _ _ _ (op_notInO hu) (pv 1) (pv 2) rfl)))) (@bl_out _ _ _ (@bl_c _ _ _ _ _ _ (ps_set (i := 5) nd rfl (by first | exact Or.inl rfl | exact Or.inr rfl) (@pe_ix _ _ _ _ _ _ _ (ix_list' rfl) (pv 3) (pv 4) (fun _ _ => rfl))) (@bl_c _ _ _ _ _ _ (ps_aug (i := 4) nd rfl (by first | exact Or.inl rfl | exact Or.inr rfl) pe_int ip_add) (@bl_1 _ _ _ (ps_for PassesOwn.never rfl (@pi_list' _ _ _ _ _ rfl (@pe_ix _ _ _ _ _ _ _ (ix_list' rfl) (pe_fld (pv 0) rfl) (pv 5) (fun _ _ => rfl))) (pg_name (i := 6) nd rfl (by first | exact Or.inl rfl | exact Or.inr rfl)) (@bl_out _ _ _ (@bl_c _ _ _ _ _ _ (ps_set (i := 7) nd rfl (by first | exact Or.inl rfl | exact Or.inr rfl) (@pe_ix _ _ _ _ _ _ _ (ix_list' rfl) (pe_fld (pv 0) rfl) (pv 6) (fun _ _ => rfl))) (@bl_1 _ _ _ (@ps_if _ _ _ _ _ _ _ _ (@PW.pt _ _ _ (@pw_and _ _ _ _ _ _ _ (@pt_cmpR _ _ _ _ _ _ _ _ op_gt (@pe_ix _ _ _ _ _ _ _ (ix_list' rfl) (pe_fld' rfl (pv 0) rfl) (pv 6) (fun _ _ => rfl)) pe_int (nomark _)) (@pw_and1 _ _ _ _ (@pt_cmpR _ _ _ _ _ _ _ _ (op_notInD hu) (pv 7) (pv 2) rfl)))) (@bl_out _ _ _ (@bl_c _ _ _ _ _ _ (ps_dput (Nat.lt_of_le_of_lt (Nat.add_le_add_left (by decide) _) hu) (pv 2) (pv 7) (pv 6) rfl) (@bl_1 _ _ _ (ps_expr (pe_bm PySem.F.plainAttrs_list PySem.F.slot_list_append PySem.F.type_list_append mt_append (pv 3) (@pa_out _ _ _ (@pa_c _ _ _ _ _ (pv 7) pa_n rfl))))))) pss_nil)))))))))) (@bl_1 _ _ _ (@ps_ret _ _ _ _ (pv 2)))))))), ?_⟩
    have line : 8000 ≤ sizeLine := by rw [sizeLine_eq]; decide
    have st0 := st.raw
    have n3 := st.sz.1
    have t3 := st.sz.2
    refine fun d hd0 => ?_
    have s1 : Same H (upd H d (.dK [])) := same_new hd0
    refine (zr rfl ⟨x, _, dx, zr1 rfl ⟨s1 _ _ st0.ins, T.L_Stream, T.n_Stream_source, rfl, upd_same, [(Sum.inl (src : Int), V.non)], rfl, by show 1 ≤ 15; decide, ?_⟩⟩)
    have s2 : Same H (upd (upd H d (.dK [])) d (.dK (treeK [(src, none)]))) := Same.put hd0 s1
    have d2 : upd (upd H d (.dK [])) d (.dK (treeK [(src, none)])) d = some (.dK (treeK [(src, none)])) := upd_same
    show gName 2 (V.ref d) _ (upd (upd H d (.dK [])) d (.dK (treeK [(src, none)]))) _
    generalize upd (upd H d _) d _ = H2 at s2 d2 ⊢
    refine (zr rfl ⟨x, _, dx, zr1 rfl ⟨s2 _ _ st0.ins, T.L_Stream, T.n_Stream_source, rfl, by show 1 ≤ _; omega, fun l hl => ?_⟩⟩)
    have c3 : Cam34 H (upd H2 l (.lst [V.int (src : Int)])) d l ts sp n src [(src, none)] := ⟨s2.trans (same_new hl), hd0, s2.free hl, ne_of_none d2 hl, (same_new hl) _ _ d2, upd_same, tree_one hs⟩
    generalize upd H2 l _ = H3 at c3 ⊢
    refine ⟨fun m σ H5 => ∃ tree, ∃ pl : Nat, ∃ o1 o2 o3, σ = [some (.ref x), some (oV (g.map fun z => (z : Int))), some (.ref d), some (.ref l), some (.int (pl : Int)), o1, o2, o3] ∧ Cam34 H H5 d l ts sp n src tree ∧ pl ≤ tree.length ∧ (∀ (i p : Nat), i < pl → (pts tree)[i]? = some p → ClosedAt ts sp (pts tree) p) ∧ m = n - pl, ⟨_, _, 0, none, none, none, rfl, c3, Nat.zero_le _, fun i p h => by omega, rfl⟩, ?_⟩
    rintro m σ H5 ⟨tree, pl, o1, o2, o3, rfl, c5, hpl, cl5, rfl⟩
    have st5 := st.same c5.sm
    have tl5 := c5.tk.len
    have len5 : ((pts tree).map fun p : Nat => V.int (p : Int)).length = tree.length := by unfold pts; rw [List.length_map, List.length_map]
    refine (zr rfl (zr rfl ⟨l, zr rfl ⟨.inl (SqL.of c5.hl), zr2 rfl rfl (zr rfl ?_)⟩⟩))
    by_cases c : pl < tree.length
    · refine iteB1 (decide_eq_true (by omega)) (zr rfl (zr rfl ⟨d, _, (g.map fun z => (z : Int)), rfl, c5.hd, rfl, zr rfl ?_⟩))
      refine iteAny (fun _ => ?_) fun hb => ?_
      · obtain ⟨p, hp⟩ : ∃ p, (pts tree)[pl]? = some p := ⟨_, List.getElem?_eq_getElem (by unfold pts; rw [List.length_map]; exact c)⟩
        have pn : p < n := by obtain ⟨y, hy, rfl⟩ := List.mem_map.mp (List.mem_of_getElem? hp); exact c5.tk.ins y hy
        obtain ⟨lp, hlp⟩ : ∃ r, as[p]? = some r := ⟨_, List.getElem?_eq_getElem (by rw [st.len]; exact pn)⟩
        have pm := List.mem_of_getElem? hp
        refine ⟨fun σ H5 => ∃ tree, ∃ o1 o2 o3, σ = [some (.ref x), some (oV (g.map fun z => (z : Int))), some (.ref d), some (.ref l), some (.int ((pl : Int) + 1)), o1, o2, o3] ∧ Cam34 H H5 d l ts sp n src tree ∧ pl + 1 ≤ tree.length ∧ (∀ (i p : Nat), i < pl + 1 → (pts tree)[i]? = some p → ClosedAt ts sp (pts tree) p), ?_, ?_⟩
        · rintro σ H6 ⟨tree6, p1, p2, p3, rfl, c6, h6, cl6⟩
          exact ⟨n - (pl + 1), by omega, tree6, pl + 1, p1, p2, p3, rfl, c6, h6, cl6, rfl⟩
        refine (zr rfl (zr rfl (ixl c5.hl (atI_nat (by rw [List.getElem?_map, hp]; rfl)) (zr rfl (zr2 rfl rfl ?_)))))
        refine (zr rfl ⟨x, _, dx, zr1 rfl ⟨st5.raw.ins, T.L_Stream, T.n_Stream_arcs, rfl, zr rfl ⟨lA, _, _, V.ref lp, rfl, rfl, SqL.of st5.raw.arcs, atI_nat (by rw [List.getElem?_map, hlp]; rfl), lp, rfl, ⟨_, SqL.of (st5.raw.rws _ _ hlp)⟩, ?_⟩⟩⟩)
        refine for_list (K := K) (a := lp) (xs := (arcsTo ts p ts.length).map V.int) (fun i σ H6 => ∃ tree6, ∃ o2 o3, σ = [some (.ref x), some (oV (g.map fun z => (z : Int))), some (.ref d), some (.ref l), some (.int ((pl : Int) + 1)), some (.int (p : Int)), o2, o3] ∧ Cam34 H H6 d l ts sp n src tree6 ∧ (∃ more, pts tree6 = pts tree ++ more) ∧ ∀ (j b : Nat), j < i → (arcsTo ts p ts.length)[j]? = some (b : Int) → 0 < at0 sp b → hd ts b ∈ pts tree6) ⟨tree, zr1 rfl ⟨c5, ⟨[], by rw [List.append_nil]⟩, fun j b h => by omega⟩⟩ ?_ ?_ ?_
        · rintro i σ H6 _ ⟨tree6, o2, o3, rfl, c6, _, _⟩
          exact SqL.of ((st.same c6.sm).raw.rws _ _ hlp)
        · rintro i z σ H6 hz ⟨tree6, o2, o3, rfl, c6, ⟨more, em⟩, cl6⟩
          obtain ⟨y, hy, rfl⟩ := map_get hz
          obtain ⟨b, rfl, hb, tb⟩ := (arcsTo_mem (Nat.le_refl _)).mp (List.mem_of_getElem? hy)
          have st6 := (st.same c6.sm).raw
          have tl6 := c6.tk.len
          have nxt : ∀ {tree7 H7 o2 o3}, Cam34 H H7 d l ts sp n src tree7 → (∃ m, pts tree7 = pts tree6 ++ m) → (0 < at0 sp b → hd ts b ∈ pts tree7) → ∃ tree8, ∃ o2' o3', [some (.ref x), some (oV (g.map fun z => (z : Int))), some (.ref d), some (.ref l), some (.int ((pl : Int) + 1)), some (.int (p : Int)), o2, o3] = [some (.ref x), some (oV (g.map fun z => (z : Int))), some (.ref d), some (.ref l), some (.int ((pl : Int) + 1)), some (.int (p : Int)), o2', o3'] ∧ Cam34 H H7 d l ts sp n src tree8 ∧ (∃ more, pts tree8 = pts tree ++ more) ∧ ∀ (j b : Nat), j < i + 1 → (arcsTo ts p ts.length)[j]? = some (b : Int) → 0 < at0 sp b → hd ts b ∈ pts tree8 := by
            rintro tree7 H7 o2 o3 c7 ⟨m7, e7⟩ h7
            refine ⟨tree7, o2, o3, rfl, c7, ⟨more ++ m7, by rw [e7, em, List.append_assoc]⟩, fun j b2 hj hb2 h0 => ?_⟩
            by_cases cj : j < i
            · rw [e7]; exact List.mem_append_left _ (cl6 j b2 cj hb2 h0)
            · obtain rfl : j = i := by omega
              rw [hy] at hb2
              obtain rfl : b = b2 := Int.ofNat.inj (Option.some.inj hb2)
              exact h7 h0
          refine (zr rfl ⟨x, _, dx, zr1 rfl ⟨st6.ins, T.L_Stream, T.n_Stream_ends, rfl, zr rfl (ixl st6.ends (atI_nat (map_at (endsO_at hb))) ?_)⟩⟩)
          refine (zr rfl ⟨x, _, dx, zr1 rfl ⟨st6.ins, T.L_Stream, T.n_Stream_spare, rfl, zr rfl (ixl st6.spr (atI_nat (map_at (at0_get (by rw [st.snd.len]; exact hb)))) (zr2 rfl rfl (zr rfl ?_)))⟩⟩)
          by_cases c1 : 0 < at0 sp b
          · have eg := DGet.k (k := Sum.inl ((hd ts b : Nat) : Int)) c6.hd
            refine iteB1 (decide_eq_true c1) (zr rfl (zr rfl ⟨d, zr rfl ⟨eg, zr rfl ?_⟩⟩))
            rw [tree_some c6.tk.nd]
            by_cases c2 : hd ts b ∈ pts tree6
            · exact iteB0 (by rw [decide_eq_true c2]; rfl) (nxt c6 ⟨[], by rw [List.append_nil]⟩ fun _ => c2)
            · refine iteB1 (by rw [decide_eq_false c2]; rfl) ?_
              have pt6 : tl ts b ∈ pts tree6 := by rw [tb, em]; exact List.mem_append_left _ pm
              have tk7 := c6.tk.snoc hb c2 (hd_lt st.tin hb) rfl c1 pt6
              refine (zr rfl (zr rfl (zr rfl ⟨d, zr rfl ⟨DPut.k (k := Sum.inl ((hd ts b : Nat) : Int)) c6.hd (by unfold treeK; rw [List.length_map]; omega), ?_⟩⟩)))
              rw [tree_put c2]
              have hl7 : upd H6 d (.dK (treeK (tree6 ++ [(hd ts b, some b)]))) l = some (.lst ((pts tree6).map fun p : Nat => V.int (p : Int))) := by rw [upd_ne (Ne.symm c6.ne)]; exact c6.hl
              refine (zr rfl ⟨.inl ⟨rfl, _, SqL.of hl7⟩, zr rfl ⟨l, zr2 rfl rfl ⟨hl7, by unfold pts; rw [List.length_map, List.length_map]; omega, ?_⟩⟩⟩)
              exact nxt (c6.add tk7) ⟨[hd ts b], pts_snoc⟩ fun _ => by rw [pts_snoc]; exact List.mem_append_right _ (.head _)
          · exact iteB0 (decide_eq_false c1) (iteB0 rfl (nxt c6 ⟨[], by rw [List.append_nil]⟩ fun h => absurd h c1))
        · rintro σ H6 ⟨tree6, o2, o3, rfl, c6, ⟨more, em⟩, cl6⟩
          have l6 : tree6.length = (pts tree6).length := (List.length_map ..).symm
          have l5 : tree.length = (pts tree).length := (List.length_map ..).symm
          refine ⟨tree6, _, zr1 rfl ⟨c6, by rw [l6, em, List.length_append, ← l5]; omega, fun i p2 hi hp2 => ?_⟩⟩
          rw [em, List.getElem?_append_left (by omega)] at hp2
          by_cases ci : i < pl
          · exact (cl5 i p2 ci hp2).more fun z hz => by rw [em]; exact List.mem_append_left _ hz
          · obtain rfl : i = pl := by omega
            obtain rfl : p = p2 := by rw [hp] at hp2; exact Option.some.inj hp2
            intro b hb tb h0
            obtain ⟨j, hj⟩ := List.getElem?_of_mem ((arcsTo_mem (z := (b : Int)) (Nat.le_refl _)).mpr ⟨b, rfl, hb, tb⟩)
            exact cl6 j b (by rw [List.length_map]; exact (List.getElem?_eq_some_iff.mp hj).1) hj h0
      · refine (zr rfl (q d tree H5 c5.sm c5.fd c5.hd c5.tk fun h2 => ?_))
        cases g with
        | none => cases hb
        | some z =>
          have hb : (!(valV (treeK tree) (Sum.inl (z : Int))).isSome) = false := hb
          rw [tree_some c5.tk.nd, decide_eq_false (h2 z rfl)] at hb
          cases hb
    · refine iteB0 (decide_eq_false (by omega)) (zr rfl (q d tree H5 c5.sm c5.fd c5.hd c5.tk fun _ p hp => ?_))
      obtain ⟨i, hi⟩ := List.getElem?_of_mem hp
      have := (List.getElem?_eq_some_iff.mp hi).1
      have lp : (pts tree).length = tree.length := List.length_map ..
      exact cl5 i p (by omega) hi
theorem sc_Stream_sent_along : FnScope ["self", "came", "goal", "way", "point", "arc", "most"] ["self", "came", "goal"] (defScope s_Stream_sent_along) := ⟨rfl, rfl, rfl, by decide +kernel, rfl, by decide +kernel, by decide +kernel⟩
theorem ok_Stream_sent_along (T : Tx K mg a) : FnOk P w K mg base CX0 1 a.a_Stream_sent_along a.d_Stream_sent_along ["self", "came", "goal"] (spAlongS a.c_Stream) := by
  refine T.F_Stream_sent_along.ok sc_Stream_sent_along (fun vs H Q E h => ?_) (fun cdv A outer s H vs Q E hr h => ?_)
  · obtain ⟨_, _, _, _, _, _, _, _, _, _, _, _, _, rfl, _⟩ := h; rfl
  · have nd := sc_Stream_sent_along.nd
    have hu := hr.units
    obtain ⟨x, dx, lA, lE, lS, as, src, n, ts, sp, d, tree, g, rfl, st, hd0, tk, hg, ng, q⟩ := h
    refine ⟨_, (@bl_out _ _ _ (@bl_c _ _ _ _ _ _ (ps_set (i := 3) nd rfl (by first | exact Or.inl rfl | exact Or.inr rfl) (@pe_lst _ _ _ _ pa_nil)) (@bl_c _ _ _ _ _ _ (ps_set (i := 4) nd rfl (by first | exact Or.inl rfl | exact Or.inr rfl) (pv 2)) (@bl_c _ _ _ _ _ _ (@ps_while _ _ _ _ _ _ PassesOwn.never (@pt_cmpR _ _ _ _ _ _ _ _ op_ne (pv 4) (pe_fld (pv 0) rfl) (nomark _)) (@bl_out _ _ _ (@bl_c _ _ _ _ _ _ (ps_set (i := 5) nd rfl (by first | exact Or.inl rfl | exact Or.inr rfl) (pe_dget (Nat.lt_of_le_of_lt (Nat.add_le_add_left (by decide) _) hu) (pv 1) (pv 4) (fun _ _ => rfl))) (@bl_c _ _ _ _ _ _ (ps_expr (pe_bm PySem.F.plainAttrs_list PySem.F.slot_list_append PySem.F.type_list_append mt_append (pv 3) (@pa_out _ _ _ (@pa_c _ _ _ _ _ (pv 5) pa_n rfl)))) (@bl_1 _ _ _ (ps_set (i := 4) nd rfl (by first | exact Or.inl rfl | exact Or.inr rfl) (@pe_ix _ _ _ _ _ _ _ (ix_list' rfl) (pe_fld (pv 0) rfl) (@pe_op _ _ _ _ _ _ _ _ op_xor (pv 5) pe_int) (fun _ _ => rfl)))))))) (@bl_c _ _ _ _ _ _ (ps_set (i := 6) nd rfl (by first | exact Or.inl rfl | exact Or.inr rfl) (pe_callB (call_minL rfl) (by rfl) T.b_min PyProof.Rows.boot_min (@pa_out _ _ _ (@pa_c _ _ _ _ _ (pe_comp (own := ["arc"]) (caps := [0]) rfl (show CompScope ["arc"] [0] ["self", "came", "goal", "way", "point", "arc", "most"] (defScope s_Stream_sent_along) _ from ⟨rfl, by decide +kernel, by decide +kernel, by decide +kernel, by decide +kernel⟩) (@pi_list' _ _ _ _ _ rfl (pv 3)) (fun _ _ _ _ => (pg_name (i := 0) (show List.Nodup (["arc", "self"] : List Str) from by decide +kernel) rfl (by first | exact Or.inl rfl | exact Or.inr rfl))) (fun _ _ _ _ => pts_nil) (fun _ _ _ _ => (@pe_ix _ _ _ _ _ _ _ (ix_list' rfl) (pe_fld' rfl (pv 1) rfl) (pv 0) (fun _ _ => rfl)))) pa_n rfl)))) (@bl_c _ _ _ _ _ _ (ps_for PassesOwn.never rfl (@pi_list' _ _ _ _ _ rfl (pv 3)) (pg_name (i := 5) nd rfl (by first | exact Or.inl rfl | exact Or.inr rfl)) (@bl_out _ _ _ (@bl_c _ _ _ _ _ _ (ps_augS (pe_fld' rfl (pv 0) rfl) (pv 5) (get_list rfl) (pv 6) ip_sub set_list) (@bl_1 _ _ _ (ps_augS (pe_fld' rfl (pv 0) rfl) (@pe_op _ _ _ _ _ _ _ _ op_xor (pv 5) pe_int) (get_list rfl) (pv 6) ip_add set_list))))) (@bl_1 _ _ _ (@ps_ret _ _ _ _ (pv 6))))))))), ?_⟩
    have line : 8000 ≤ sizeLine := by rw [sizeLine_eq]; decide
    have n3 := st.sz.1
    have t3 := st.sz.2
    have tlen := tk.len
    obtain ⟨yg, hyg, rfl⟩ := List.mem_map.mp hg
    obtain ⟨ig, hig⟩ := List.getElem?_of_mem hyg
    have ilt := (List.getElem?_eq_some_iff.mp hig).1
    refine ⟨by show 0 ≤ _; omega, fun l hl => ?_⟩
    have s1 : Same H (upd H l (.lst (([] : List Nat).map fun a : Nat => V.int (a : Int)))) := same_new hl
    have l1 : upd H l (.lst (([] : List Nat).map fun a : Nat => V.int (a : Int))) l = some (.lst (([] : List Nat).map fun a : Nat => V.int (a : Int))) := upd_same
    show gName 3 (V.ref l) _ (upd H l (.lst (([] : List Nat).map fun a : Nat => V.int (a : Int)))) _
    generalize upd H l _ = H1 at s1 l1 ⊢
    refine (zr rfl ?_)
    refine ⟨fun m σ H5 => ∃ (w0 : List Nat) (c i : Nat) (o : Option Nat) (o1 : Option V), σ = [some (.ref x), some (.ref d), some (.int (yg.1 : Int)), some (.ref l), some (.int (c : Int)), o1, none] ∧ Same H H5 ∧ H5 l = some (.lst (w0.map fun a : Nat => V.int (a : Int))) ∧ BackW ts yg.1 w0 c ∧ tree[i]? = some (c, o) ∧ (∀ a ∈ w0, a < 2 * ts.length ∧ 0 < at0 sp a ∧ ∃ j y, i < j ∧ tree[j]? = some (y, some a)) ∧ w0.Nodup ∧ w0.length + i < tree.length ∧ m = i, ⟨_, [], yg.1, ig, yg.2, none, rfl, s1, l1, .nil, hig, (fun _ h => by cases h), .nil, by show 0 + ig < _; omega, rfl⟩, ?_⟩
    rintro i σ H5 ⟨w0, c, i9, o, o1, rfl, s5, l5, bw, hi, hw, nd0, wl, rfl⟩
    have st5 := (st.same s5).raw
    refine (zr rfl (zr rfl ⟨x, _, dx, zr1 rfl ⟨st5.ins, T.L_Stream, T.n_Stream_source, rfl, rfl, zr rfl ?_⟩⟩))
    refine iteAny (fun hc => ?_) fun hc => ?_
    · have hc : c ≠ src := fun e => by subst e; rw [decide_eq_true rfl] at hc; cases hc
      have i0 : 0 < i := by
        rcases Nat.eq_zero_or_pos i with z | z
        · subst z; rw [tk.root] at hi; cases hi; exact absurd rfl hc
        · exact z
      obtain ⟨b, e1, hb, e2, b0, j, y, hj, hjy, ey⟩ := tk.arc i _ hi i0
      have e1 : o = some b := e1
      subst e1
      have e2 : hd ts b = c := e2
      have eg : DGet H5 d (V.int (c : Int)) (some (V.int (b : Int))) := by
        have := DGet.k (k := Sum.inl (c : Int)) (s5 _ _ hd0)
        rw [tree_got tk.nd hi] at this; exact this
      have nb : b ∉ w0 := fun h => by
        obtain ⟨_, _, j2, y2, hj2, hy2⟩ := hw b h
        obtain ⟨b2, f1, _, f2, _⟩ := tk.arc j2 _ hy2 (by omega)
        have f1 : some b = some b2 := f1
        cases f1
        have f2 : hd ts b = y2 := f2
        have := nod_at34 tk.nd (i := i) (j := j2) (a := c) (by unfold pts; rw [List.getElem?_map, hi]; rfl) (by unfold pts; rw [List.getElem?_map, hy2]; show some y2 = _; rw [← f2, e2])
        omega
      refine ⟨fun σ H6 => ∃ (w0 : List Nat) (c j : Nat) (o : Option Nat) (o1 : Option V), σ = [some (.ref x), some (.ref d), some (.int (yg.1 : Int)), some (.ref l), some (.int (c : Int)), o1, none] ∧ Same H H6 ∧ H6 l = some (.lst (w0.map fun a : Nat => V.int (a : Int))) ∧ BackW ts yg.1 w0 c ∧ tree[j]? = some (c, o) ∧ (∀ a ∈ w0, a < 2 * ts.length ∧ 0 < at0 sp a ∧ ∃ j' y, j < j' ∧ tree[j']? = some (y, some a)) ∧ w0.Nodup ∧ w0.length + j < tree.length ∧ j < i, ?_, ?_⟩
      · rintro σ H6 ⟨w6, c6, j6, o6, p6, rfl, h1, h2, h3, h4, h5, h6, h7, h8⟩
        exact ⟨j6, h8, w6, c6, j6, o6, p6, rfl, h1, h2, h3, h4, h5, h6, h7, rfl⟩
      refine (zr rfl (zr rfl ⟨d, zr rfl ⟨eg, ?_⟩⟩))
      refine (zr rfl ⟨.inl ⟨rfl, _, SqL.of l5⟩, zr rfl ⟨l, zr2 rfl rfl ⟨l5, by rw [List.length_map]; omega, ?_⟩⟩⟩)
      have s6 : Same H (upd H5 l (.lst ((w0.map fun a : Nat => V.int (a : Int)) ++ [V.int (b : Int)]))) := Same.put hl s5
      have l6 : upd H5 l (.lst ((w0.map fun a : Nat => V.int (a : Int)) ++ [V.int (b : Int)])) l = some (.lst ((w0 ++ [b]).map fun a : Nat => V.int (a : Int))) := by rw [upd_same, List.map_append]; rfl
      generalize upd H5 l _ = H6 at s6 l6 ⊢
      have st6 := (st.same s6).raw
      refine (zr rfl ⟨x, _, dx, zr1 rfl ⟨st6.ins, T.L_Stream, T.n_Stream_ends, rfl, zr rfl (zr2 rfl rfl ⟨lE, _, _, V.int ((tl ts b : Nat) : Int), rfl, rfl, SqL.of st6.ends, by rw [xor_one]; exact atI_nat (map_at (endsO_at (flip_lt hb))), ?_⟩)⟩⟩)
      refine ⟨w0 ++ [b], tl ts b, j, y.2, zr rfl ⟨s6, l6, .snoc (by rw [e2]; exact bw), by rw [← ey]; exact hjy, fun z hz => ?_, ?_, by rw [List.length_append]; show _ + 1 + j < _; omega, hj⟩⟩
      · rcases List.mem_append.mp hz with h | h
        · obtain ⟨h1, h2, j', y', h3, h4⟩ := hw z h
          exact ⟨h1, h2, j', y', by omega, h4⟩
        · rw [List.mem_singleton.mp h]; exact ⟨hb, b0, i, c, hj, hi⟩
      · exact List.nodup_append.mpr ⟨nd0, List.nodup_cons.mpr ⟨by simp, .nil⟩, fun z hz c hc => by rw [List.mem_singleton.mp hc]; exact fun e => nb (e ▸ hz)⟩
    · have hc : c = src := by
        by_cases e : c = src
        · exact e
        · exfalso
          rw [decide_eq_false (fun z => e (by injection z with z; exact Int.ofNat.inj z))] at hc; cases hc
      subst hc
      have w1 : 0 < w0.length := bw.pos ng
      refine (zr rfl ⟨l, rfl, ⟨_, SqL.of l5⟩, ?_⟩)
      refine comp_listB (K := K) (a := l) (xs := w0.map fun a : Nat => V.int (a : Int)) (fun i τ acc H6 => (∃ t0, τ = [t0, some (.ref x)]) ∧ acc = ((w0.take i).map fun a => V.int (at0 sp a)) ∧ H6 = H5) ⟨⟨_, rfl⟩, rfl, rfl⟩ (by rw [List.length_map]; omega) ?_ ?_ ?_
      · rintro i τ acc H6 ⟨_, rfl, rfl⟩
        exact ⟨by rw [List.length_map, List.length_take]; omega, SqL.of l5⟩
      · rintro i z τ acc H6 C hz ⟨⟨t0, rfl⟩, rfl, rfl⟩ hC
        obtain ⟨b, hb, rfl⟩ := map_get hz
        have hb2 := hw b (List.mem_of_getElem? hb)
        refine (zr rfl ⟨x, _, dx, zr1 rfl ⟨st5.ins, T.L_Stream, T.n_Stream_spare, rfl, zr rfl (ixl st5.spr (atI_nat (map_at (at0_get (by rw [st.snd.len]; exact hb2.1)))) ?_)⟩⟩)
        exact hC _ _ _ ⟨⟨_, rfl⟩, by rw [List.take_succ, hb, List.map_append]; rfl, rfl⟩
      · rintro τ acc H6 ⟨_, rfl, rfl⟩ lm hm
        have eL : ((w0.take (w0.map fun a : Nat => V.int (a : Int)).length).map fun a => V.int (at0 sp a)) = List.map V.int (w0.map (at0 sp)) := by rw [List.length_map, List.take_length, List.map_map]; rfl
        rw [eL]
        have s6 := s5.trans (same_new (o := HO.lst (List.map V.int (w0.map (at0 sp)))) hm)
        have l6 := (same_new (o := HO.lst (List.map V.int (w0.map (at0 sp)))) hm) _ _ l5
        refine ⟨lm, zr rfl ⟨SqL.of upd_same, by rw [List.length_map]; exact w1, fun M hM hle => ?_⟩⟩
        generalize upd H6 lm _ = H7 at s6 l6 ⊢
        obtain ⟨bM, hbM, rfl⟩ := List.mem_map.mp hM
        have M0 := (hw bM hbM).2.1
        have wle : ∀ z ∈ w0, z < 2 * ts.length ∧ at0 sp bM ≤ at0 sp z := fun z hz => ⟨(hw z hz).1, hle _ (List.mem_map.mpr ⟨z, hz, rfl⟩)⟩
        refine (zr rfl ⟨l, rfl, ⟨_, SqL.of l6⟩, ?_⟩)
        refine for_list (K := K) (a := l) (xs := w0.map fun a : Nat => V.int (a : Int)) (fun i σ H8 => (∃ o5, σ = [some (.ref x), some (.ref d), some (.int (yg.1 : Int)), some (.ref l), some (.int (c : Int)), o5, some (.int (at0 sp bM))]) ∧ KeptM [lS] H H8 ∧ H8 l = some (.lst (w0.map fun a : Nat => V.int (a : Int))) ∧ SRaw a.c_Stream H8 x dx lA lE lS as (c : Int) (fun p => arcsTo ts p ts.length) (endsOf ts) (bumpAll sp (w0.take i) (at0 sp bM))) ⟨⟨_, rfl⟩, Same.keptM s6, l6, (st.same s6).raw⟩ ?_ ?_ ?_
        · rintro i σ H8 _ ⟨_, _, l8, _⟩
          exact SqL.of l8
        · rintro i z σ H8 hz ⟨⟨o5, rfl⟩, k8, l8, st8⟩
          obtain ⟨b, hb, rfl⟩ := map_get hz
          have hb2 := (hw b (List.mem_of_getElem? hb)).1
          have hl8 : (bumpAll sp (w0.take i) (at0 sp bM)).length = 2 * ts.length := by rw [bumpAll_len]; exact st.snd.len
          have lne : l ≠ lS := Ne.symm (ne_of_none st.raw.spr hl)
          have eT : w0.take (i + 1) = w0.take i ++ [b] := by rw [List.take_succ, hb]; rfl
          have eB : bumpAll sp (w0.take (i + 1)) (at0 sp bM) = bump (bumpAll sp (w0.take i) (at0 sp bM)) b (at0 sp bM) := by rw [eT, bumpAll_snoc]
          rw [eB]
          generalize bumpAll sp (w0.take i) (at0 sp bM) = sq at st8 hl8 ⊢
          refine (zr rfl ⟨x, _, dx, zr1 rfl ⟨st8.ins, T.L_Stream, T.n_Stream_spare, rfl, zr rfl ⟨lS, _, _, b, rfl, rfl, SqL.of st8.spr, map_at (at0_get (by rw [hl8]; exact hb2)), zr rfl (zr2 rfl rfl ⟨lS, _, zr2 rfl rfl ⟨st8.spr, ixN_nat (by rw [List.length_map, hl8]; exact hb2), ?_⟩⟩)⟩⟩⟩)
          rw [map_setI]
          have st9 := st8.setS (sp' := sq.set b (at0 sq b - at0 sp bM))
          have k9 : KeptM [lS] H8 (upd H8 lS (.lst ((sq.set b (at0 sq b - at0 sp bM)).map V.int))) := KeptM.upd (.head _)
          have l9 : upd H8 lS (.lst ((sq.set b (at0 sq b - at0 sp bM)).map V.int)) l = some (.lst (w0.map fun a : Nat => V.int (a : Int))) := by rw [upd_ne lne]; exact l8
          generalize upd H8 lS _ = H9 at st9 k9 l9 ⊢
          have hl9 : (sq.set b (at0 sq b - at0 sp bM)).length = 2 * ts.length := by rw [List.length_set]; exact hl8
          unfold bump
          generalize sq.set b (at0 sq b - at0 sp bM) = sr at st9 hl9 ⊢
          refine (zr rfl ⟨x, _, dx, zr1 rfl ⟨st9.ins, T.L_Stream, T.n_Stream_spare, rfl, zr rfl (zr2 rfl rfl ⟨lS, _, _, flip b, rfl, congrArg V.int (xor_one b), SqL.of st9.spr, map_at (at0_get (by rw [hl9]; exact flip_lt hb2)), zr rfl (zr2 rfl rfl ⟨lS, _, _, flip b, rfl, rfl, st9.spr, by rw [xor_one]; exact ixN_nat (by rw [List.length_map, hl9]; exact flip_lt hb2), ?_⟩)⟩)⟩⟩)
          rw [map_setI]
          exact ⟨⟨_, rfl⟩, (k8.trans k9).trans (KeptM.upd (.head _)), by rw [upd_ne lne]; exact l9, st9.setS⟩
        · rintro σ H8 ⟨⟨o5, rfl⟩, k8, l8, st8⟩
          rw [List.length_map, List.take_length] at st8
          exact (zr rfl (q _ w0 _ M0 bw wle nd0 k8 ⟨st8, st.len, st.tin, st.snd.way (Int.le_of_lt M0) wle nd0, st.sz⟩))
theorem sc_Stream_send : FnScope ["self", "source", "goal", "total", "came"] ["self", "source", "goal"] (defScope s_Stream_send) := ⟨rfl, rfl, rfl, by decide +kernel, rfl, by decide +kernel, by decide +kernel⟩
theorem ok_Stream_send (T : Tx K mg a) : FnOk P w K mg base CX0 2 a.a_Stream_send a.d_Stream_send ["self", "source", "goal"] (spSendS a.c_Stream) := by
  have G_Stream_came_to := @ok_Stream_came_to P w _ _ base _ T
  have G_Stream_sent_along := @ok_Stream_sent_along P w _ _ base _ T
  refine T.F_Stream_send.ok sc_Stream_send (fun vs H Q E h => ?_) (fun cdv A outer s H vs Q E hr h => ?_)
  · obtain ⟨_, _, _, _, _, _, _, _, _, _, _, _, rfl, _⟩ := h; rfl
  · have nd := sc_Stream_send.nd
    have hu := hr.units
    obtain ⟨x, dx, lA, lE, lS, as, src0, n, ts, sp, s0, g, rfl, st, hs, hg, ne, q⟩ := h
    refine ⟨_, (@bl_out _ _ _ (@bl_c _ _ _ _ _ _ (ps_fld (pv 0) (pv 1) rfl) (@bl_c _ _ _ _ _ _ (ps_set (i := 3) nd rfl (by first | exact Or.inl rfl | exact Or.inr rfl) pe_int) (@bl_c _ _ _ _ _ _ (ps_set (i := 4) nd rfl (by first | exact Or.inl rfl | exact Or.inr rfl) (pe_meth (pv 0) T.L_Stream T.M_Stream_came_to G_Stream_came_to (hr.mono (by decide)) T.i_Stream_came_to .nil pass0 (@pa_out _ _ _ (@pa_c _ _ _ _ _ (pv 2) pa_n rfl)))) (@bl_c _ _ _ _ _ _ (@ps_while _ _ _ _ _ _ PassesOwn.never (@pt_cmpR _ _ _ _ _ _ _ _ (op_inD hu) (pv 2) (pv 4) rfl) (@bl_out _ _ _ (@bl_c _ _ _ _ _ _ (ps_aug (i := 3) nd rfl (by first | exact Or.inl rfl | exact Or.inr rfl) (pe_meth (pv 0) T.L_Stream T.M_Stream_sent_along G_Stream_sent_along (hr.mono (by decide)) T.i_Stream_sent_along .nil pass0 (@pa_out _ _ _ (@pa_c _ _ _ _ _ (pv 4) (@pa_c _ _ _ _ _ (pv 2) pa_n rfl) rfl))) ip_add) (@bl_1 _ _ _ (ps_set (i := 4) nd rfl (by first | exact Or.inl rfl | exact Or.inr rfl) (pe_meth (pv 0) T.L_Stream T.M_Stream_came_to G_Stream_came_to (hr.mono (by decide)) T.i_Stream_came_to .nil pass0 (@pa_out _ _ _ (@pa_c _ _ _ _ _ (pv 2) pa_n rfl)))))))) (@bl_1 _ _ _ (@ps_ret _ _ _ _ (pv 3)))))))), ?_⟩
    have line : 8000 ≤ sizeLine := by rw [sizeLine_eq]; decide
    have st0 := st.raw
    refine (zr rfl (zr rfl ⟨x, _, dx, zr rfl ⟨st0.ins, T.L_Stream, T.n_Stream_source, by show 4 < 1000; decide, ?_⟩⟩))
    have st1 := st0.setX (src' := (s0 : Int))
    have k1 : KeptM [x, lS] H (upd H x (.ins a.c_Stream dx [("source", .int (s0 : Int)), ("arcs", .ref lA), ("ends", .ref lE), ("spare", .ref lS)])) := KeptM.upd (.head _)
    show tSeq _ _ _ _ (upd H x (.ins a.c_Stream dx [("source", .int (s0 : Int)), ("arcs", .ref lA), ("ends", .ref lE), ("spare", .ref lS)]))
    generalize upd H x _ = H1 at st1 k1 ⊢
    have st2 : SAt a.c_Stream H1 x dx lA lE lS as (s0 : Int) n ts sp := ⟨st1, st.len, st.tin, st.snd, st.sz⟩
    refine (zr rfl ⟨x, dx, zr rfl ⟨st1.ins, rfl, zr rfl ⟨x, dx, lA, lE, lS, as, s0, n, ts, sp, some g, rfl, st2, hs, fun d tree H2 s2 fd h2 tk cl => ?_⟩⟩⟩)
    refine ⟨fun m σ H5 => ∃ tot sp' d tree, σ = [some (.ref x), some (.int (s0 : Int)), some (.int (g : Int)), some (.int tot), some (.ref d)] ∧ 0 ≤ tot ∧ KeptM [x, lS] H H5 ∧ SAt a.c_Stream H5 x dx lA lE lS as (s0 : Int) n ts sp' ∧ H5 d = some (.dK (treeK tree)) ∧ TreeOk ts sp' n s0 tree ∧ (g ∉ pts tree → ∀ p ∈ pts tree, ClosedAt ts sp' (pts tree) p) ∧ (∀ p, net ts sp' p ts.length = net ts sp p ts.length + tot * ((if g = p then 1 else 0) - (if s0 = p then 1 else 0))) ∧ m = (cap ts ts.length - net ts sp' g ts.length).toNat, ⟨_, 0, sp, d, tree, rfl, Int.le_refl _, k1.trans (Same.keptM s2), st2.same s2, h2, tk, fun h => cl fun z e => by cases e; exact h, fun p => by rw [Int.zero_mul, Int.add_zero], rfl⟩, ?_⟩
    rintro m σ H5 ⟨tot, sp', d5, tree5, rfl, t0, k5, st5, h5, tk5, cl5, nt5, rfl⟩
    have eg := DGet.k (k := Sum.inl (g : Int)) h5
    refine (zr rfl (zr rfl ⟨d5, zr rfl ⟨eg, zr rfl ?_⟩⟩))
    rw [tree_some tk5.nd]
    by_cases c : g ∈ pts tree5
    · refine iteB1 (decide_eq_true c) ⟨fun σ H6 => ∃ m6 w6 d6 tree6, σ = [some (.ref x), some (.int (s0 : Int)), some (.int (g : Int)), some (.int (tot + m6)), some (.ref d6)] ∧ 0 < m6 ∧ BackW ts g w6 s0 ∧ (∀ a ∈ w6, a < 2 * ts.length ∧ m6 ≤ at0 sp' a) ∧ w6.Nodup ∧ KeptM [x, lS] H H6 ∧ SAt a.c_Stream H6 x dx lA lE lS as (s0 : Int) n ts (bumpAll sp' w6 m6) ∧ H6 d6 = some (.dK (treeK tree6)) ∧ TreeOk ts (bumpAll sp' w6 m6) n s0 tree6 ∧ (g ∉ pts tree6 → ∀ p ∈ pts tree6, ClosedAt ts (bumpAll sp' w6 m6) (pts tree6) p), ?_, ?_⟩
      · rintro σ H6 ⟨m6, w6, d6, tree6, rfl, m0, bw, hw, nd, k6, st6, h6, tk6, cl6⟩
        have nt6 : ∀ p, net ts (bumpAll sp' w6 m6) p ts.length = net ts sp p ts.length + (tot + m6) * ((if g = p then 1 else 0) - (if s0 = p then 1 else 0)) := fun p => by
          rw [net_way st5.snd.len bw fun a h => (hw a h).1, nt5 p, Int.add_mul]; omega
        have e6 : net ts (bumpAll sp' w6 m6) g ts.length = net ts sp' g ts.length + m6 := by
          rw [net_way st5.snd.len bw fun a h => (hw a h).1, if_pos rfl, if_neg ne]; omega
        have cp := net_cap st6.snd g _ (Nat.le_refl _)
        exact ⟨_, by rw [e6] at cp ⊢; omega, tot + m6, _, d6, tree6, rfl, by omega, k6, st6, h6, tk6, cl6, nt6, rfl⟩
      · refine (zr rfl (zr rfl ⟨x, dx, zr rfl ⟨st5.raw.ins, rfl, zr rfl (zr rfl ⟨x, dx, lA, lE, lS, as, s0, n, ts, sp', d5, tree5, g, rfl, st5, h5, tk5, c, Ne.symm ne, fun m6 w6 H6 m0 bw hw nd k6 st6 => ?_⟩)⟩⟩))
        refine (zr2 rfl rfl (zr rfl ⟨x, dx, zr rfl ⟨st6.raw.ins, rfl, zr rfl ⟨x, dx, lA, lE, lS, as, s0, n, ts, _, some g, rfl, st6, hs, fun d7 tree7 H7 s7 fd7 h7 tk7 cl7 => ?_⟩⟩⟩))
        exact ⟨m6, w6, d7, tree7, rfl, m0, bw, hw, nd, k5.trans ((k6.sub fun z h => by rw [List.mem_singleton.mp h]; exact .tail _ (.head _)).trans (Same.keptM s7)), st6.same s7, h7, tk7, fun h => cl7 fun z e => by cases e; exact h⟩
    · refine iteB0 (decide_eq_false c) (zr rfl (q tot sp' tree5 _ k5 st5 t0 nt5 tk5 c (cl5 c)))
theorem sc_Stream_near : FnScope ["self", "came"] ["self"] (defScope s_Stream_near) := ⟨rfl, rfl, rfl, by decide +kernel, rfl, by decide +kernel, by decide +kernel⟩
theorem ok_Stream_near (T : Tx K mg a) : FnOk P w K mg base CX0 2 a.a_Stream_near a.d_Stream_near ["self"] (spNearS a.c_Stream) := by
  have G_Stream_came_to := @ok_Stream_came_to P w _ _ base _ T
  refine T.F_Stream_near.ok sc_Stream_near (fun vs H Q E h => ?_) (fun cdv A outer s H vs Q E hr h => ?_)
  · obtain ⟨_, _, _, _, _, _, _, _, _, _, rfl, _⟩ := h; rfl
  · have nd := sc_Stream_near.nd
    have hu := hr.units
    obtain ⟨x, dx, lA, lE, lS, as, src, n, ts, sp, rfl, st, hs, q⟩ := h
    refine ⟨_, (@bl_out _ _ _ (@bl_c _ _ _ _ _ _ (ps_set (i := 1) nd rfl (by first | exact Or.inl rfl | exact Or.inr rfl) (pe_meth (pv 0) T.L_Stream T.M_Stream_came_to G_Stream_came_to (hr.mono (by decide)) T.i_Stream_came_to .nil pass0 (@pa_out _ _ _ (@pa_c _ _ _ _ _ pe_non pa_n rfl)))) (@bl_1 _ _ _ (@ps_ret _ _ _ _ (pe_comp (own := ["point"]) (caps := [1]) rfl (show CompScope ["point"] [1] ["self", "came"] (defScope s_Stream_near) _ from ⟨rfl, by decide +kernel, by decide +kernel, by decide +kernel, by decide +kernel⟩) (pi_range1 rfl T.b_range (@pa_out _ _ _ (@pa_c _ _ _ _ _ (pe_callB (call_len_seq' rfl) (by rfl) T.b_len PySem.boot_len (@pa_out _ _ _ (@pa_c _ _ _ _ _ (pe_fld (pv 0) rfl) pa_n rfl))) pa_n rfl))) (fun _ _ _ _ => (pg_name (i := 0) (show List.Nodup (["point", "came"] : List Str) from by decide +kernel) rfl (by first | exact Or.inl rfl | exact Or.inr rfl))) (fun _ _ _ _ => pts_nil) (fun _ _ _ _ => (@pe_cmpR _ _ _ _ _ _ _ _ (op_inD hu) (pv 0) (pv 1) rfl))))))), ?_⟩
    have line : 8000 ≤ sizeLine := by rw [sizeLine_eq]; decide
    refine (zr rfl ⟨x, dx, zr rfl ⟨st.raw.ins, rfl, x, dx, lA, lE, lS, as, src, n, ts, sp, none, rfl, st, hs, fun d tree H1 s1 fd h1 tk cl => ?_⟩⟩)
    have st1 := st.same s1
    have n3 := st.sz.1
    have el : (as.map V.ref).length = n := by rw [List.length_map]; exact st.len
    refine (zr rfl ⟨x, _, dx, zr1 rfl ⟨st1.raw.ins, T.L_Stream, T.n_Stream_arcs, rfl, lA, zr rfl ⟨.inl (SqL.of st1.raw.arcs), zr rfl ⟨by omega, by omega, ?_⟩⟩⟩⟩)
    refine comp_rangeB (lo := 0) (m := (as.map V.ref).length) (fun i τ acc H5 => (∃ t0, τ = [t0, some (.ref d)]) ∧ acc = ((List.range i).map fun p => V.bl (decide (p ∈ pts tree))) ∧ H5 = H1) ⟨⟨_, rfl⟩, rfl, rfl⟩ (by omega) ?_ ?_ ?_
    · rintro i τ acc H5 ⟨_, rfl, rfl⟩
      rw [List.length_map, List.length_range]; exact Nat.le_refl _
    · rintro i τ acc H5 C hi ⟨⟨t0, rfl⟩, rfl, rfl⟩ hC
      have eg := DGet.k (k := Sum.inl (i : Int)) h1
      rw [Int.zero_add]
      refine (zr rfl (zr rfl ⟨d, zr rfl ⟨eg, ?_⟩⟩))
      rw [tree_some tk.nd]
      exact hC _ _ _ ⟨⟨_, rfl⟩, by rw [List.range_succ, List.map_append]; rfl, rfl⟩
    · rintro τ acc H5 ⟨_, rfl, rfl⟩ l hl
      refine q l tree _ (s1.trans (same_new hl)) (s1.free hl) ?_ tk (cl fun z h => by cases h)
      rw [el]; exact upd_same
theorem sc__law_ties : FnScope ["_law_script", "_law_many", "_law_first", "_law_found", "_law_k", "_law_purse_here", "_law_turn", "_law_here", "_law_there", "_law_way", "_law_most"] ["_law_script", "_law_many", "_law_first"] (defScope s__law_ties) := ⟨rfl, rfl, rfl, by decide +kernel, rfl, by decide +kernel, by decide +kernel⟩
theorem ok__law_ties (T : Tx K mg a) : FnOk P w K mg base CX0 2 a.a__law_ties a.d__law_ties ["_law_script", "_law_many", "_law_first"] (spTies35 K) := by
  have G__law_purse := @ok__law_purse P w _ _ base _ T
  have G__law_take := @ok__law_take P w _ _ base _ T
  refine T.F__law_ties.ok sc__law_ties (fun vs H Q E h => ?_) (fun cdv A outer s H vs Q E hr h => ?_)
  · obtain ⟨_, _, _, _, rfl, _⟩ := h; rfl
  · have nd := sc__law_ties.nd
    have hu := hr.units
    obtain ⟨sa, ns, n, f0, rfl, hS, n63, n2, n9, hf, q⟩ := h
    refine ⟨_, (@bl_out _ _ _ (@bl_c _ _ _ _ _ _ (ps_set (i := 3) nd rfl (by first | exact Or.inl rfl | exact Or.inr rfl) (@pe_lst _ _ _ _ pa_nil)) (@bl_c _ _ _ _ _ _ (ps_for PassesOwn.never rfl (pi_range3 rfl T.b_range (@pa_out _ _ _ (@pa_c _ _ _ _ _ (pv 2) (@pa_c _ _ _ _ _ (pe_callB (call_min2 rfl) (by rfl) T.b_min PyProof.Rows.boot_min (@pa_out _ _ _ (@pa_c _ _ _ _ _ (pe_callB (call_max2 rfl) (by rfl) T.b_max PyProof.Rows.boot_max (@pa_out _ _ _ (@pa_c _ _ _ _ _ (pe_callB (call_len_seq' rfl) (by rfl) T.b_len PySem.boot_len (@pa_out _ _ _ (@pa_c _ _ _ _ _ (pv 0) pa_n rfl))) (@pa_c _ _ _ _ _ pe_int pa_n rfl) rfl))) (@pa_c _ _ _ _ _ pe_int pa_n rfl) rfl))) (@pa_c _ _ _ _ _ pe_int pa_n rfl) rfl) rfl))) (pg_name (i := 4) nd rfl (by first | exact Or.inl rfl | exact Or.inr rfl)) (@bl_out _ _ _ (@bl_c _ _ _ _ _ _ (ps_set (i := 5) nd rfl (by first | exact Or.inl rfl | exact Or.inr rfl) (pe_call G__law_purse (hr.mono (by decide)) rfl T.m__law_purse T.k__law_purse T.i__law_purse .nil pass0 (@pa_out _ _ _ (@pa_c _ _ _ _ _ (pv 0) (@pa_c _ _ _ _ _ (pv 4) pa_n rfl) rfl)))) (@bl_1 _ _ _ (ps_for PassesOwn.never rfl (pi_range1 rfl T.b_range (@pa_out _ _ _ (@pa_c _ _ _ _ _ (@pe_op _ _ _ _ _ _ _ _ op_add pe_int (pe_call G__law_take (hr.mono (by decide)) rfl T.m__law_take T.k__law_take T.i__law_take .nil pass0 (@pa_out _ _ _ (@pa_c _ _ _ _ _ (pv 5) (@pa_c _ _ _ _ _ pe_int pa_n rfl) rfl)))) pa_n rfl))) (pg_name (i := 6) nd rfl (by first | exact Or.inl rfl | exact Or.inr rfl)) (@bl_out _ _ _ (@bl_c _ _ _ _ _ _ (ps_set (i := 7) nd rfl (by first | exact Or.inl rfl | exact Or.inr rfl) (pe_call G__law_take (hr.mono (by decide)) rfl T.m__law_take T.k__law_take T.i__law_take .nil pass0 (@pa_out _ _ _ (@pa_c _ _ _ _ _ (pv 5) (@pa_c _ _ _ _ _ (pv 1) pa_n rfl) rfl)))) (@bl_c _ _ _ _ _ _ (ps_set (i := 8) nd rfl (by first | exact Or.inl rfl | exact Or.inr rfl) (@pe_op _ _ _ _ _ _ _ _ op_mod (@pe_op _ _ _ _ _ _ _ _ op_add (@pe_op _ _ _ _ _ _ _ _ op_add (pv 7) pe_int) (pe_call G__law_take (hr.mono (by decide)) rfl T.m__law_take T.k__law_take T.i__law_take .nil pass0 (@pa_out _ _ _ (@pa_c _ _ _ _ _ (pv 5) (@pa_c _ _ _ _ _ (pv 1) pa_n rfl) rfl)))) (pv 1))) (@bl_c _ _ _ _ _ _ (ps_set (i := 9) nd rfl (by first | exact Or.inl rfl | exact Or.inr rfl) (pe_call G__law_take (hr.mono (by decide)) rfl T.m__law_take T.k__law_take T.i__law_take .nil pass0 (@pa_out _ _ _ (@pa_c _ _ _ _ _ (pv 5) (@pa_c _ _ _ _ _ pe_int pa_n rfl) rfl)))) (@bl_c _ _ _ _ _ _ (ps_set (i := 10) nd rfl (by first | exact Or.inl rfl | exact Or.inr rfl) (pe_call G__law_take (hr.mono (by decide)) rfl T.m__law_take T.k__law_take T.i__law_take .nil pass0 (@pa_out _ _ _ (@pa_c _ _ _ _ _ (pv 5) (@pa_c _ _ _ _ _ (@pe_ix _ _ _ _ _ _ _ (ix_list' rfl) (@pe_lst _ _ _ _ (@pa_out _ _ _ (@pa_c _ _ _ _ _ pe_int (@pa_c _ _ _ _ _ pe_int (@pa_c _ _ _ _ _ pe_int (@pa_c _ _ _ _ _ (@pe_op _ _ _ _ _ _ _ _ op_pow pe_int pe_int) pa_n rfl) rfl) rfl) rfl))) (pv 9) (fun _ _ => rfl)) pa_n rfl) rfl)))) (@bl_c _ _ _ _ _ _ (@ps_if _ _ _ _ _ _ _ _ (@pt_cmpR _ _ _ _ _ _ _ _ op_eq (pv 9) pe_int (nomark _)) (@bl_out _ _ _ (@bl_1 _ _ _ (ps_set (i := 10) nd rfl (by first | exact Or.inl rfl | exact Or.inr rfl) (@pe_op _ _ _ _ _ _ _ _ op_mulB (pv 10) (pe_call G__law_take (hr.mono (by decide)) rfl T.m__law_take T.k__law_take T.i__law_take .nil pass0 (@pa_out _ _ _ (@pa_c _ _ _ _ _ (pv 5) (@pa_c _ _ _ _ _ (@pe_op _ _ _ _ _ _ _ _ op_pow pe_int pe_int) pa_n rfl) rfl))))))) pss_nil) (@bl_1 _ _ _ (ps_expr (pe_bm PySem.F.plainAttrs_list PySem.F.slot_list_append PySem.F.type_list_append mt_append (pv 3) (@pa_out _ _ _ (@pa_c _ _ _ _ _ (@pe_tup _ _ _ _ _ (@pa_out _ _ _ (@pa_c _ _ _ _ _ (pv 7) (@pa_c _ _ _ _ _ (pv 8) (@pa_c _ _ _ _ _ (pv 10) pa_n rfl) rfl) rfl))) pa_n rfl)))))))))))))))) (@bl_1 _ _ _ (@ps_ret _ _ _ _ (pv 3)))))), ?_⟩
    have line : 8000 ≤ sizeLine := by rw [sizeLine_eq]; decide
    refine ⟨by show 0 ≤ _; omega, fun l hl => ?_⟩
    have t1 : Ti34 H (upd H l (.lst [])) l n [] (3 * 0) := ⟨same_new hl, upd_same, (fun r hr => by cases hr), Nat.le_refl _⟩
    show gName 3 (V.ref l) _ (upd H l (.lst [])) _
    generalize upd H l _ = H1 at t1 ⊢
    obtain ⟨j, ej, j6, j42⟩ : ∃ j : Nat, (if (42 : Int) < (if (6 : Int) > ((ns.map V.int).length : Int) then 6 else ((ns.map V.int).length : Int)) then 42 else (if (6 : Int) > ((ns.map V.int).length : Int) then 6 else ((ns.map V.int).length : Int))) = (j : Int) ∧ 6 ≤ j ∧ j < 43 := by
      refine ⟨(if (42 : Int) < (if (6 : Int) > ((ns.map V.int).length : Int) then 6 else ((ns.map V.int).length : Int)) then 42 else (if (6 : Int) > ((ns.map V.int).length : Int) then 6 else ((ns.map V.int).length : Int))).toNat, ?_, ?_, ?_⟩ <;> (split <;> (try split) <;> omega)
    obtain ⟨u1, u2, u3⟩ := up35 j j42 f0 hf j6
    refine (zr rfl (zr rfl ⟨sa, zr rfl ⟨.inl (t1.sm.seq hS), zr1 rfl (zr1 rfl ⟨_, (j : Int), 2, (j - 2 - f0 + 1) / 2, by rw [ej], by decide, u1, u2, u3, ?_⟩)⟩⟩))
    refine for_rangeS (lo := ((2 + f0 : Nat) : Int)) (c := 2) (n := (j - 2 - f0 + 1) / 2) (fun i σ H5 => ∃ rows, (∃ o4 o5 o6 o7 o8 o9 o10, σ = [some (.ref sa), some (.int (n : Int)), some (.int ((2 + f0 : Nat) : Int)), some (.ref l), o4, o5, o6, o7, o8, o9, o10]) ∧ Ti34 H H5 l n rows (3 * i)) ⟨[], ⟨_, _, _, _, _, _, _, rfl⟩, t1⟩ ?_ ?_
    · rintro i σ H5 hi ⟨rows, ⟨o4, o5, o6, o7, o8, o9, o10, rfl⟩, t5⟩
      have i20 : i < 20 := by omega
      rw [show (((2 + f0 : Nat) : Int) + (i : Int) * 2) = ((2 + f0 + i * 2 : Nat) : Int) by omega]
      refine (zr rfl (zr rfl ⟨sa, ns, 2 + f0 + i * 2, rfl, t5.sm.seq hS, by omega, fun p H6 fp5 pu6 s6 => ?_⟩))
      have fp : H p = none := t5.sm.free fp5
      have t6 := t5.same s6
      refine (zr rfl ⟨p, zr rfl ⟨by decide, by decide, pu6, fun d H7 d0 d1 g7 => (zr2 rfl rfl (zr rfl ⟨by omega, by omega, ?_⟩))⟩⟩)
      have t7 := t6.go fp pu6 g7
      refine for_range (lo := 0) (fun j σ H8 => ∃ rows, (∃ o6 o7 o8 o9 o10, σ = [some (.ref sa), some (.int (n : Int)), some (.int ((2 + f0 : Nat) : Int)), some (.ref l), some (.int ((2 + f0 + i * 2 : Nat) : Int)), some (.ref p), o6, o7, o8, o9, o10]) ∧ Purse H8 p ∧ Ti34 H H8 l n rows (3 * i + j)) ⟨rows, ⟨_, _, _, _, _, rfl⟩, g7.2, t7⟩ ?_ ?_
      · rintro j σ H8 hj ⟨rows8, ⟨o6, o7, o8, o9, o10, rfl⟩, pu8, t8⟩
        refine (zr rfl (zr rfl ⟨p, zr rfl ⟨by omega, by show (n : Int) < 2 ^ 200; omega, pu8, fun h H9 h0 h1 g9 => ?_⟩⟩))
        have t9 := t8.go fp pu8 g9
        refine (zr rfl (zr2 rfl rfl (zr rfl (zr rfl ⟨p, zr rfl ⟨by omega, by show (n : Int) < 2 ^ 200; omega, g9.2, fun t H10 t0 t1 g10 => (zr2 rfl rfl (zr rfl (zr2 rfl rfl ⟨by show (0 : Int) < (n : Int); omega, ?_⟩)))⟩⟩))))
        have t10 := t9.go fp g9.2 g10
        have v0 := Int.emod_nonneg (h + 1 + t) (show (n : Int) ≠ 0 by omega)
        have v1 := Int.emod_lt_of_pos (h + 1 + t) (show (0 : Int) < (n : Int) by omega)
        show gName 8 (V.int ((h + 1 + t) % (n : Int))) _ _ _
        generalize (h + 1 + t) % (n : Int) = v at v0 v1 ⊢
        refine (zr rfl ⟨p, zr rfl ⟨by decide, by decide, g10.2, fun w0 H11 w1 w2 g11 => ?_⟩⟩)
        have t11 := t10.go fp g10.2 g11
        obtain ⟨c, hc, c0, c1⟩ : ∃ c : Int, atI [V.int 2, V.int 4, V.int 100, V.int (10 ^ Int.toNat 20)] w0 = some (V.int c) ∧ 0 < c ∧ c < 2 ^ 200 := by
          obtain rfl | rfl | rfl | rfl : w0 = 0 ∨ w0 = 1 ∨ w0 = 2 ∨ w0 = 3 := by omega
          · exact ⟨2, rfl, by decide, by decide⟩
          · exact ⟨4, rfl, by decide, by decide⟩
          · exact ⟨100, rfl, by decide, by decide⟩
          · exact ⟨10 ^ Int.toNat 20, rfl, by decide, by decide⟩
        refine (zr rfl (zr2 rfl rfl ⟨⟨by decide, by decide, by decide⟩, by show 4 ≤ _; omega, fun q4 hq4 => ?_⟩))
        have s12 : Same H11 (upd H11 q4 (.lst [V.int 2, V.int 4, V.int 100, V.int (10 ^ Int.toNat 20)])) := same_new hq4
        have p12 : Purse (upd H11 q4 (.lst [V.int 2, V.int 4, V.int 100, V.int (10 ^ Int.toNat 20)])) p := g11.2.new hq4
        refine (zr rfl (ixl upd_same hc ⟨p, zr rfl ⟨c0, c1, p12, fun m H13 m0 m1 g13 => ?_⟩⟩))
        have t13 := (t11.same s12).go fp p12 g13
        refine (zr rfl ⟨rfl, zr rfl (iteN (fun σ H14 => ∃ m : Int, 0 ≤ m ∧ σ = [some (.ref sa), some (.int (n : Int)), some (.int ((2 + f0 : Nat) : Int)), some (.ref l), some (.int ((2 + f0 + i * 2 : Nat) : Int)), some (.ref p), some (.int (0 + (j : Int))), some (.int h), some (.int v), some (.int w0), some (.int m)] ∧ Purse H14 p ∧ Ti34 H H14 l n rows8 (3 * i + j)) ?_ (fun _ k0 => ?_) (fun _ => ⟨m, m0, rfl, g13.2, t13⟩))⟩)
        · rintro σ H14 ⟨m, m0, rfl, pu14, t14⟩
          have l14 := t14.len
          refine (zr rfl ⟨.inl ⟨rfl, _, SqL.of t14.hl⟩, zr rfl (zr rfl (zr rfl ⟨by show 3 ≤ _; omega, fun tt htt => ?_⟩))⟩)
          obtain ⟨hN, rfl⟩ := Int.eq_ofNat_of_zero_le h0
          obtain ⟨vN, rfl⟩ := Int.eq_ofNat_of_zero_le v0
          have hl15 := (same_new (o := HO.tup (tieV ⟨hN, vN, m⟩)) htt) _ _ t14.hl
          refine ⟨l, zr2 rfl rfl ⟨hl15, by rw [List.length_map]; omega, ?_⟩⟩
          have t15 := t14.add (x := ⟨hN, vN, m⟩) hl htt (by show hN < n; omega) (by show vN < n; omega) m0
          refine ⟨_, ⟨_, _, _, _, _, rfl⟩, ?_, t15⟩
          have hp15 : Purse (upd H14 tt (.tup (tieV ⟨hN, vN, m⟩))) p := pu14.new htt
          have lp : l ≠ p := hp15.refs hl15 fun x hx => by obtain ⟨r, _, rfl⟩ := List.mem_map.mp hx; exact ⟨_, rfl⟩
          obtain ⟨a1, a2, a3, e⟩ := hp15
          exact ⟨a1, a2, a3, by rw [upd_ne (Ne.symm lp)]; exact e⟩
        · have m2 : m < 2 ^ 200 := Int.lt_trans m1 c1
          refine (zr rfl (zr rfl (zr2 rfl rfl ⟨⟨by decide, by decide, by decide⟩, p, zr rfl ⟨by decide, by decide, g13.2, fun e H14 e0 e1 g14 => (zr2 rfl rfl ⟨⟨⟨m0, m2⟩, e0, Int.lt_trans e1 (by decide)⟩, k0 _ _ ⟨m * e, Int.mul_nonneg m0 e0, rfl, g14.2, t13.go fp g13.2 g14⟩⟩)⟩⟩)))
      · rintro σ H8 ⟨rows8, ⟨o6, o7, o8, o9, o10, rfl⟩, pu8, t8⟩
        exact ⟨rows8, ⟨_, _, _, _, _, _, _, rfl⟩, t8.le (by omega)⟩
    · rintro σ H5 ⟨rows, ⟨o4, o5, o6, o7, o8, o9, o10, rfl⟩, t5⟩
      exact (zr rfl (q l rows H5 t5.sm hl t5.hl t5.each (Nat.le_trans t5.len (by omega))))
theorem sc__law_ends : FnScope ["_law_script", "_law_k", "_law_head", "_law_many", "_law_source"] ["_law_script", "_law_k"] (defScope s__law_ends) := ⟨rfl, rfl, rfl, by decide +kernel, rfl, by decide +kernel, by decide +kernel⟩
theorem ok__law_ends (T : Tx K mg a) : FnOk P w K mg base CX0 2 a.a__law_ends a.d__law_ends ["_law_script", "_law_k"] (spEnds35 K) := by
  have G__law_purse := @ok__law_purse P w _ _ base _ T
  have G__law_take := @ok__law_take P w _ _ base _ T
  refine T.F__law_ends.ok sc__law_ends (fun vs H Q E h => ?_) (fun cdv A outer s H vs Q E hr h => ?_)
  · obtain ⟨_, _, _, rfl, _⟩ := h; rfl
  · have nd := sc__law_ends.nd
    have hu := hr.units
    obtain ⟨sa, ns, k, rfl, hS, hk, q⟩ := h
    refine ⟨_, (@bl_out _ _ _ (@bl_c _ _ _ _ _ _ (ps_set (i := 2) nd rfl (by first | exact Or.inl rfl | exact Or.inr rfl) (pe_call G__law_purse (hr.mono (by decide)) rfl T.m__law_purse T.k__law_purse T.i__law_purse .nil pass0 (@pa_out _ _ _ (@pa_c _ _ _ _ _ (pv 0) (@pa_c _ _ _ _ _ (pv 1) pa_n rfl) rfl)))) (@bl_c _ _ _ _ _ _ (ps_set (i := 3) nd rfl (by first | exact Or.inl rfl | exact Or.inr rfl) (@pe_op _ _ _ _ _ _ _ _ op_add pe_int (pe_call G__law_take (hr.mono (by decide)) rfl T.m__law_take T.k__law_take T.i__law_take .nil pass0 (@pa_out _ _ _ (@pa_c _ _ _ _ _ (pv 2) (@pa_c _ _ _ _ _ pe_int pa_n rfl) rfl))))) (@bl_c _ _ _ _ _ _ (ps_set (i := 4) nd rfl (by first | exact Or.inl rfl | exact Or.inr rfl) (pe_call G__law_take (hr.mono (by decide)) rfl T.m__law_take T.k__law_take T.i__law_take .nil pass0 (@pa_out _ _ _ (@pa_c _ _ _ _ _ (pv 2) (@pa_c _ _ _ _ _ (pv 3) pa_n rfl) rfl)))) (@bl_1 _ _ _ (@ps_ret _ _ _ _ (@pe_tup _ _ _ _ _ (@pa_out _ _ _ (@pa_c _ _ _ _ _ (pv 3) (@pa_c _ _ _ _ _ (pv 4) (@pa_c _ _ _ _ _ (@pe_op _ _ _ _ _ _ _ _ op_mod (@pe_op _ _ _ _ _ _ _ _ op_add (@pe_op _ _ _ _ _ _ _ _ op_add (pv 4) pe_int) (pe_call G__law_take (hr.mono (by decide)) rfl T.m__law_take T.k__law_take T.i__law_take .nil pass0 (@pa_out _ _ _ (@pa_c _ _ _ _ _ (pv 2) (@pa_c _ _ _ _ _ (@pe_op _ _ _ _ _ _ _ _ op_sub (pv 3) pe_int) pa_n rfl) rfl)))) (pv 3)) pa_n rfl) rfl) rfl))))))))), ?_⟩
    have line : 8000 ≤ sizeLine := by rw [sizeLine_eq]; decide
    refine (zr rfl (zr rfl ⟨sa, ns, k, rfl, hS, hk, fun p H1 fp pu1 s1 => ?_⟩))
    refine (zr rfl ⟨p, zr rfl ⟨by decide, by decide, pu1, fun d H2 d0 d1 g2 => (zr2 rfl rfl ?_)⟩⟩)
    show gName 3 (V.int (2 + d)) _ _ _
    obtain ⟨n, en⟩ : ∃ n : Nat, 2 + d = (n : Int) := ⟨(2 + d).toNat, by omega⟩
    rw [en]
    refine (zr rfl (zr rfl ⟨p, zr rfl ⟨by omega, by show (n : Int) < 2 ^ 200; omega, g2.2, fun s0 H3 s00 s01 g3 => ?_⟩⟩))
    obtain ⟨sN, rfl⟩ := Int.eq_ofNat_of_zero_le s00
    refine (zr rfl (zr rfl (zr rfl (zr2 rfl rfl (zr rfl (zr rfl (zr2 rfl rfl ⟨p, zr rfl ⟨by show (0 : Int) < (n : Int) - 1; omega, by show (n : Int) - 1 < 2 ^ 200; omega, g3.2, fun e H4 e0 e1 g4 => (zr2 rfl rfl (zr rfl (zr2 rfl rfl ⟨by show (0 : Int) < (n : Int); omega, by show 3 ≤ _; omega, fun t ht => ?_⟩)))⟩⟩)))))))
    have v0 := Int.emod_nonneg ((sN : Int) + 1 + e) (show (n : Int) ≠ 0 by omega)
    have v1 := Int.emod_lt_of_pos ((sN : Int) + 1 + e) (show (0 : Int) < (n : Int) by omega)
    have v2 := goal_ne s00 s01 e0 e1
    obtain ⟨gN, eg⟩ := Int.eq_ofNat_of_zero_le v0
    rw [eg] at v1 v2
    have s4 : Same H H4 := But.same fp s1 ((g2.trans (g3.trans g4)).1)
    refine q t n sN gN _ (s4.trans (same_new ht)) ?_ (by omega) (by omega) (by omega) (by omega) (fun z => v2 (by rw [z]))
    rw [upd_same]
    show some (HO.tup [V.int (n : Int), V.int (sN : Int), V.int (((sN : Int) + 1 + e) % (n : Int))]) = _
    rw [eg]; rfl
theorem sc__law_tied : FnScope ["_law_streams", "_law_ties_of", "_law_k", "_law_at", "_law_here", "_law_there", "_law_most"] ["_law_streams", "_law_ties_of"] (defScope s__law_tied) := ⟨rfl, rfl, rfl, by decide +kernel, rfl, by decide +kernel, by decide +kernel⟩
theorem ok__law_tied (T : Tx K mg a) : FnOk P w K mg base CX0 2 a.a__law_tied a.d__law_tied ["_law_streams", "_law_ties_of"] (spTied35 a.c_Stream) := by
  have G_Stream_tie := @ok_Stream_tie P w _ _ base _ T
  refine T.F__law_tied.ok sc__law_tied (fun vs H Q E h => ?_) (fun cdv A outer s H vs Q E hr h => ?_)
  · obtain ⟨_, _, _, rfl, _⟩ := h; rfl
  · have nd := sc__law_tied.nd
    have hu := hr.units
    obtain ⟨l1, l2, f, rfl, h1, h2, at0_, dj, nm1, nm2, nm3, q⟩ := h
    refine ⟨_, (@bl_out _ _ _ (@bl_1 _ _ _ (ps_for PassesOwn.never rfl (pi_range1 rfl T.b_range (@pa_out _ _ _ (@pa_c _ _ _ _ _ (pe_callB (call_max2 rfl) (by rfl) T.b_max PyProof.Rows.boot_max (@pa_out _ _ _ (@pa_c _ _ _ _ _ (pe_callB (call_len_seq' rfl) (by rfl) T.b_len PySem.boot_len (@pa_out _ _ _ (@pa_c _ _ _ _ _ (@pe_ix _ _ _ _ _ _ _ (ix_list' rfl) (pv 1) pe_int (fun _ _ => rfl)) pa_n rfl))) (@pa_c _ _ _ _ _ (pe_callB (call_len_seq' rfl) (by rfl) T.b_len PySem.boot_len (@pa_out _ _ _ (@pa_c _ _ _ _ _ (@pe_ix _ _ _ _ _ _ _ (ix_list' rfl) (pv 1) pe_int (fun _ _ => rfl)) pa_n rfl))) pa_n rfl) rfl))) pa_n rfl))) (pg_name (i := 2) nd rfl (by first | exact Or.inl rfl | exact Or.inr rfl)) (@bl_out _ _ _ (@bl_1 _ _ _ (ps_for PassesOwn.never rfl (pi_range1 rfl T.b_range (@pa_out _ _ _ (@pa_c _ _ _ _ _ pe_int pa_n rfl))) (pg_name (i := 3) nd rfl (by first | exact Or.inl rfl | exact Or.inr rfl)) (@bl_out _ _ _ (@bl_1 _ _ _ (@ps_if _ _ _ _ _ _ _ _ (@pt_cmpR _ _ _ _ _ _ _ _ op_lt (pv 2) (pe_callB (call_len_seq' rfl) (by rfl) T.b_len PySem.boot_len (@pa_out _ _ _ (@pa_c _ _ _ _ _ (@pe_ix _ _ _ _ _ _ _ (ix_list' rfl) (pv 1) (pv 3) (fun _ _ => rfl)) pa_n rfl))) (nomark _)) (@bl_out _ _ _ (@bl_c _ _ _ _ _ _ (ps_asg (@pe_ix _ _ _ _ _ _ _ (ix_list' rfl) (@pe_ix _ _ _ _ _ _ _ (ix_list' rfl) (pv 1) (pv 3) (fun _ _ => rfl)) (pv 2) (fun _ _ => rfl)) (pg_tup' (n := 3) rfl rfl (pgs_cons (pg_name (i := 4) nd rfl (by first | exact Or.inl rfl | exact Or.inr rfl)) (pgs_cons (pg_name (i := 5) nd rfl (by first | exact Or.inl rfl | exact Or.inr rfl)) (pgs_cons (pg_name (i := 6) nd rfl (by first | exact Or.inl rfl | exact Or.inr rfl)) pgs_nil))))) (@bl_1 _ _ _ (ps_expr (pe_meth (@pe_ix _ _ _ _ _ _ _ (ix_list' rfl) (pv 0) (pv 3) (fun _ _ => rfl)) T.L_Stream T.M_Stream_tie G_Stream_tie (hr.mono (by decide)) T.i_Stream_tie .nil pass0 (@pa_out _ _ _ (@pa_c _ _ _ _ _ (pv 4) (@pa_c _ _ _ _ _ (pv 5) (@pa_c _ _ _ _ _ (pv 6) pa_n rfl) rfl) rfl))))))) pss_nil))))))))), ?_⟩
    have line : 8000 ≤ sizeLine := by rw [sizeLine_eq]; decide
    have td : ∀ i, i < 2 → (f i).Tied H := fun i hi => (at0_ i hi).2
    have lr : ∀ i, ((f i).rows.map fun r => V.ref r.1).length = (f i).rows.length := fun i => List.length_map ..
    have e0 := (td 0 (by omega)).2.2
    have e1 := (td 1 (by omega)).2.2
    refine (zr rfl ⟨l2, _, _, V.ref (f 0).lt, rfl, rfl, SqL.of h2, rfl, (f 0).lt, zr rfl ⟨.inl (SqL.of (td 0 (by omega)).1), zr rfl ⟨l2, _, _, V.ref (f 1).lt, rfl, rfl, SqL.of h2, rfl, (f 1).lt, zr rfl ⟨.inl (SqL.of (td 1 (by omega)).1), zr1 rfl (zr rfl ⟨?_, ?_, ?_⟩)⟩⟩⟩⟩)
    · rw [lr, lr]; split <;> omega
    · rw [lr, lr]; split <;> omega
    rw [lr, lr]
    have big : ∀ i, i < 2 → (f i).rows.length ≤ (if (((f 1).rows.length : Nat) : Int) > (((f 0).rows.length : Nat) : Int) then (((f 1).rows.length : Nat) : Int) else (((f 0).rows.length : Nat) : Int)).toNat := fun i hi => by
      rcases (by omega : i = 0 ∨ i = 1) with rfl | rfl <;> (split <;> omega)
    generalize (if (((f 1).rows.length : Nat) : Int) > (((f 0).rows.length : Nat) : Int) then (((f 1).rows.length : Nat) : Int) else (((f 0).rows.length : Nat) : Int)).toNat = N at big ⊢
    refine for_range (lo := 0) (n := N) (fun k σ H5 => (∃ o2 o3 o4 o5 o6, σ = [some (.ref l1), some (.ref l2), o2, o3, o4, o5, o6]) ∧ KeptM ((f 0).own ++ (f 1).own) H H5 ∧ ∀ i, i < 2 → (f i).At a.c_Stream H5 0 k (spr (((f i).rows.take k).map (·.2)))) ⟨⟨_, _, _, _, _, rfl⟩, KeptM.refl _ _, fun i hi => (at0_ i hi).1⟩ ?_ ?_
    · rintro k σ H5 hk ⟨⟨o2, o3, o4, o5, o6, rfl⟩, k5, at5⟩
      rw [Int.zero_add]
      refine ⟨2, rfl, by decide, by decide, ?_⟩
      refine for_range (lo := 0) (n := 2) (fun j σ H6 => (∃ o3 o4 o5 o6, σ = [some (.ref l1), some (.ref l2), some (.int (k : Int)), o3, o4, o5, o6]) ∧ KeptM ((f 0).own ++ (f 1).own) H H6 ∧ ∀ i, i < 2 → (f i).At a.c_Stream H6 0 (if i < j then k + 1 else k) (spr (((f i).rows.take (if i < j then k + 1 else k)).map (·.2)))) ⟨⟨_, _, _, _, rfl⟩, k5, fun i hi => by rw [if_neg (by omega)]; exact at5 i hi⟩ ?_ ?_
      · rintro j σ H6 hj ⟨⟨p3, p4, p5, p6, rfl⟩, k6, at6⟩
        rw [Int.zero_add]
        obtain ⟨t1, t2, t3⟩ := td j hj
        obtain ⟨m1, m2⟩ := nm3 j hj
        have g1 := k6 _ _ nm1 h1
        have g2 := k6 _ _ nm2 h2
        have g3 := k6 _ _ m1 t1
        have aj := at6 j hj
        rw [if_neg (by omega)] at aj
        refine (zr rfl (zr rfl (zr rfl ⟨l2, _, _, V.ref (f j).lt, rfl, rfl, SqL.of g2, pick2 (g := fun i => (f i).lt) hj, (f j).lt, zr rfl ⟨.inl (SqL.of g3), zr2 rfl rfl (zr rfl (iteN _ (fun _ _ h => h) (fun c k0 => ?_) (fun c => ⟨⟨_, _, _, _, rfl⟩, k6, fun i hi => ?_⟩)))⟩⟩)))
        · have hk2 : k < (f j).rows.length := by have := of_decide_eq_true c; rw [lr] at this; omega
          obtain ⟨r, hr⟩ : ∃ r, (f j).rows[k]? = some r := ⟨_, List.getElem?_eq_getElem hk2⟩
          obtain ⟨r1, r2, r3, r4⟩ := t2 r (List.mem_of_getElem? hr)
          have r1 := k6 _ _ (m2 r (List.mem_of_getElem? hr)) r1
          refine (zr rfl (zr rfl ⟨l2, _, _, V.ref (f j).lt, rfl, rfl, SqL.of g2, pick2 (g := fun i => (f i).lt) hj, zr rfl ⟨(f j).lt, _, _, V.ref r.1, rfl, rfl, SqL.of g3, atI_nat (by rw [List.getElem?_map, hr]; rfl), un3 r1 ?_⟩⟩))
          refine (zr rfl (zr rfl ⟨l1, _, _, V.ref (f j).x, rfl, rfl, SqL.of g1, pick2 (g := fun i => (f i).x) hj, (f j).x, (f j).dx, zr rfl ⟨aj.raw.ins, rfl, zr rfl (zr rfl (zr rfl ⟨(f j).x, (f j).dx, (f j).lA, (f j).lE, (f j).lS, (f j).as, 0, (f j).n, _, _, r.2.h, r.2.t, r.2.m, rfl, aj, r2, r3, r4, by rw [List.length_map, List.length_take]; omega, fun H7 k7 st7 => ?_⟩))⟩⟩))
          refine k0 _ _ ⟨⟨_, _, _, _, rfl⟩, k6.trans (k7.sub fun b hb => own_sub hj b (tie_own b hb)), fun i hi => ?_⟩
          by_cases e : i = j
          · subst e
            rw [if_pos (by omega)]
            show SAt _ _ _ _ _ _ _ _ _ _ (((f i).rows.take (k + 1)).map (·.2)) _
            rw [List.take_succ, hr, Option.toList_some, List.map_append]
            show SAt _ _ _ _ _ _ _ _ _ _ (_ ++ [r.2]) (spr (_ ++ [r.2]))
            rw [spr_snoc]
            exact st7
          · have := at6 i hi
            have e2 : (if i < j + 1 then k + 1 else k) = (if i < j then k + 1 else k) := by
              by_cases c3 : i < j
              · rw [if_pos c3, if_pos (by omega)]
              · rw [if_neg c3, if_neg (by omega)]
            rw [e2]
            exact SAt.kept this k7 fun b hb h => own_apart dj hi hj e b hb (tie_own b h)
        · have hk2 : (f j).rows.length ≤ k := by have := of_decide_eq_false c; rw [lr] at this; omega
          by_cases e : i = j
          · subst e
            rw [if_pos (by omega)]
            have e3 : (f i).rows.take (k + 1) = (f i).rows.take k := by rw [List.take_of_length_le hk2, List.take_of_length_le (by omega)]
            unfold S35.At at aj ⊢
            rw [e3]; exact aj
          · have e2 : (if i < j + 1 then k + 1 else k) = (if i < j then k + 1 else k) := by
              by_cases c3 : i < j
              · rw [if_pos c3, if_pos (by omega)]
              · rw [if_neg c3, if_neg (by omega)]
            rw [e2]; exact at6 i hi
      · rintro σ H6 ⟨⟨p3, p4, p5, p6, rfl⟩, k6, at6⟩
        exact ⟨⟨_, _, _, _, _, rfl⟩, k6, fun i hi => by have := at6 i hi; rwa [if_pos hi] at this⟩
    rintro σ H5 ⟨_, k5, at5⟩
    refine q _ H5 k5 fun i hi => ?_
    have := at5 i hi
    unfold S35.At at this ⊢
    rw [List.take_of_length_le (big i hi)] at this
    rw [List.take_length]
    exact this
theorem sc__law_met : FnScope ["_law_source", "_law_many", "_law_ties_here", "_law_sent", "_law_found", "_law_turn", "_law_k", "_law_here", "_law_there", "_law_most"] ["_law_source", "_law_many", "_law_ties_here", "_law_sent"] (defScope s__law_met) := ⟨rfl, rfl, rfl, by decide +kernel, rfl, by decide +kernel, by decide +kernel⟩
theorem ok__law_met (T : Tx K mg a) : FnOk P w K mg base CX0 1 a.a__law_met a.d__law_met ["_law_source", "_law_many", "_law_ties_here", "_law_sent"] (spMet35) := by
  refine T.F__law_met.ok sc__law_met (fun vs H Q E h => ?_) (fun cdv A outer s H vs Q E hr h => ?_)
  · obtain ⟨_, _, _, _, _, _, _, rfl, _⟩ := h; rfl
  · have nd := sc__law_met.nd
    have hu := hr.units
    obtain ⟨src, n, lt, ls, rows, sp, tree, rfl, n9, hlt, each, r60, hls, snd, tk, cl, q⟩ := h
    refine ⟨_, (@bl_out _ _ _ (@bl_c _ _ _ _ _ _ (ps_set (i := 4) nd rfl (by first | exact Or.inl rfl | exact Or.inr rfl) (@pe_lst _ _ _ _ (@pa_out _ _ _ (@pa_c _ _ _ _ _ (pv 0) pa_n rfl)))) (@bl_c _ _ _ _ _ _ (ps_for PassesOwn.never rfl (pi_range1 rfl T.b_range (@pa_out _ _ _ (@pa_c _ _ _ _ _ (pv 1) pa_n rfl))) (pg_name (i := 5) nd rfl (by first | exact Or.inl rfl | exact Or.inr rfl)) (@bl_out _ _ _ (@bl_1 _ _ _ (ps_for PassesOwn.never rfl (pi_range1 rfl T.b_range (@pa_out _ _ _ (@pa_c _ _ _ _ _ (pe_callB (call_len_seq' rfl) (by rfl) T.b_len PySem.boot_len (@pa_out _ _ _ (@pa_c _ _ _ _ _ (pv 2) pa_n rfl))) pa_n rfl))) (pg_name (i := 6) nd rfl (by first | exact Or.inl rfl | exact Or.inr rfl)) (@bl_out _ _ _ (@bl_c _ _ _ _ _ _ (ps_asg (@pe_ix _ _ _ _ _ _ _ (ix_list' rfl) (pv 2) (pv 6) (fun _ _ => rfl)) (pg_tup' (n := 3) rfl rfl (pgs_cons (pg_name (i := 7) nd rfl (by first | exact Or.inl rfl | exact Or.inr rfl)) (pgs_cons (pg_name (i := 8) nd rfl (by first | exact Or.inl rfl | exact Or.inr rfl)) (pgs_cons (pg_name (i := 9) nd rfl (by first | exact Or.inl rfl | exact Or.inr rfl)) pgs_nil))))) (@bl_c _ _ _ _ _ _ (@ps_if _ _ _ _ _ _ _ _ (@PW.pt _ _ _ (@pw_and _ _ _ _ _ _ _ (@pt_cmpR _ _ _ _ _ _ _ _ (op_in_seq' rfl) (pv 7) (pv 4) rfl) (@pw_and _ _ _ _ _ _ _ (@pt_cmpR _ _ _ _ _ _ _ _ op_notIn_seq (pv 8) (pv 4) rfl) (@pw_and1 _ _ _ _ (@pt_cmpR _ _ _ _ _ _ _ _ op_lt (@pe_ix _ _ _ _ _ _ _ (ix_list' rfl) (pv 3) (pv 6) (fun _ _ => rfl)) (pv 9) (nomark _)))))) (@bl_out _ _ _ (@bl_1 _ _ _ (ps_expr (pe_bm PySem.F.plainAttrs_list PySem.F.slot_list_append PySem.F.type_list_append mt_append (pv 4) (@pa_out _ _ _ (@pa_c _ _ _ _ _ (pv 8) pa_n rfl)))))) pss_nil) (@bl_1 _ _ _ (@ps_if _ _ _ _ _ _ _ _ (@PW.pt _ _ _ (@pw_and _ _ _ _ _ _ _ (@pt_cmpR _ _ _ _ _ _ _ _ (op_in_seq' rfl) (pv 8) (pv 4) rfl) (@pw_and _ _ _ _ _ _ _ (@pt_cmpR _ _ _ _ _ _ _ _ op_notIn_seq (pv 7) (pv 4) rfl) (@pw_and1 _ _ _ _ (@pt_cmpR _ _ _ _ _ _ _ _ op_gt (@pe_ix _ _ _ _ _ _ _ (ix_list' rfl) (pv 3) (pv 6) (fun _ _ => rfl)) pe_int (nomark _)))))) (@bl_out _ _ _ (@bl_1 _ _ _ (ps_expr (pe_bm PySem.F.plainAttrs_list PySem.F.slot_list_append PySem.F.type_list_append mt_append (pv 4) (@pa_out _ _ _ (@pa_c _ _ _ _ _ (pv 7) pa_n rfl)))))) pss_nil))))))))) (@bl_1 _ _ _ (@ps_ret _ _ _ _ (pe_comp (own := ["_law_point"]) (caps := [4]) rfl (show CompScope ["_law_point"] [4] ["_law_source", "_law_many", "_law_ties_here", "_law_sent", "_law_found", "_law_turn", "_law_k", "_law_here", "_law_there", "_law_most"] (defScope s__law_met) _ from ⟨rfl, by decide +kernel, by decide +kernel, by decide +kernel, by decide +kernel⟩) (pi_range1 rfl T.b_range (@pa_out _ _ _ (@pa_c _ _ _ _ _ (pv 1) pa_n rfl))) (fun _ _ _ _ => (pg_name (i := 0) (show List.Nodup (["_law_point", "_law_found"] : List Str) from by decide +kernel) rfl (by first | exact Or.inl rfl | exact Or.inr rfl))) (fun _ _ _ _ => pts_nil) (fun _ _ _ _ => (@pe_cmpR _ _ _ _ _ _ _ _ (op_in_seq' rfl) (pv 0) (pv 1) rfl)))))))), ?_⟩
    have line : 8000 ≤ sizeLine := by rw [sizeLine_eq]; decide
    have lr : (rows.map fun r => V.ref r.1).length = rows.length := List.length_map ..
    have tlen := tk.len
    have ml : ∀ {r k F}, Met35 (rows.map (·.2)) sp tree r k F → F.length ≤ n := fun m => nodup_pts m.nd fun x hx => by obtain ⟨y, hy, rfl⟩ := List.mem_map.mp (m.sub x hx); exact tk.ins y hy
    refine (zr rfl ⟨by show 1 ≤ _; omega, fun l hl => ?_⟩)
    have s1 : Same H (upd H l (.lst (nV [src]))) := same_new hl
    have l1 : upd H l (.lst (nV [src])) l = some (.lst (nV [src])) := upd_same
    have m1 : Met35 (rows.map (·.2)) sp tree 0 0 [src] := ⟨fun p h => by rw [List.mem_singleton.mp h]; exact tk.src, List.nodup_cons.mpr ⟨by simp, .nil⟩, fun i y hi hy => by
      obtain rfl : i = 0 := by omega
      rw [tk.root] at hy; cases hy; exact .head _, fun a ha => by omega⟩
    show gName 4 (V.ref l) _ (upd H l (.lst (nV [src]))) _
    generalize upd H l _ = H1 at s1 l1 ⊢
    refine (zr rfl (zr rfl ⟨by omega, by omega, ?_⟩))
    refine for_range (lo := 0) (n := (n : Int).toNat) (fun r σ H5 => ∃ F, (∃ o5 o6 o7 o8 o9, σ = [some (.int (src : Int)), some (.int (n : Int)), some (.ref lt), some (.ref ls), some (.ref l), o5, o6, o7, o8, o9]) ∧ Same H H5 ∧ H5 l = some (.lst (nV F)) ∧ Met35 (rows.map (·.2)) sp tree r 0 F) ⟨[src], ⟨_, _, _, _, _, rfl⟩, s1, l1, m1⟩ ?_ ?_
    · rintro r σ H5 hr ⟨F, ⟨o5, o6, o7, o8, o9, rfl⟩, s5, l5, m5⟩
      refine (zr rfl ⟨lt, zr rfl ⟨.inl (SqL.of (s5 _ _ hlt)), zr rfl ⟨by omega, by omega, ?_⟩⟩⟩)
      refine for_range (lo := 0) (n := ((rows.map fun r => V.ref r.1).length : Int).toNat) (fun k σ H6 => ∃ F, (∃ o5 o6 o7 o8 o9, σ = [some (.int (src : Int)), some (.int (n : Int)), some (.ref lt), some (.ref ls), some (.ref l), o5, o6, o7, o8, o9]) ∧ Same H H6 ∧ H6 l = some (.lst (nV F)) ∧ Met35 (rows.map (·.2)) sp tree r k F) ⟨F, ⟨_, _, _, _, _, rfl⟩, s5, l5, m5⟩ ?_ ?_
      · rintro k σ H6 hk ⟨F, ⟨p5, p6, p7, p8, p9, rfl⟩, s6, l6, m6⟩
        have hk : k < rows.length := by rw [← lr]; omega
        obtain ⟨x, hx⟩ : ∃ x, rows[k]? = some x := ⟨_, List.getElem?_eq_getElem hk⟩
        have hx2 : (rows.map (·.2))[k]? = some x.2 := by rw [List.getElem?_map, hx]; rfl
        have e6 := s6 _ _ (each x (List.mem_of_getElem? hx))
        have kl : k < (rows.map (·.2)).length := by rw [List.length_map]; exact hk
        have sm := snd.sum k _ hx2
        have fl := ml m6
        obtain ⟨a1, a2⟩ := hd_even hx2
        obtain ⟨b1, b2⟩ := tl_even hx2
        have ft : ∀ F : List Nat, (nV F).all flatV = true := fun F => by unfold nV; simp [flatV]
        rw [Int.zero_add]
        refine (zr rfl (zr rfl ⟨lt, _, _, V.ref x.1, rfl, rfl, SqL.of (s6 _ _ hlt), atI_nat (by rw [List.getElem?_map, hx]; rfl), un3 e6 ?_⟩))
        have inn : ∀ {F : List Nat} {p : Nat} {c : Bool}, inV (V.int (p : Int)) (nV F) = c → c = decide (p ∈ F) := fun e => by rw [← e, inV_nV]
        have gv : H6 ls = some (.lst ((List.range rows.length).map fun k => V.int (at0 sp (2 * k + 1)))) := s6 _ _ hls
        refine (zr rfl (zr rfl ⟨l, zr rfl ⟨.inl (SqL.of l6), rfl, ft F, zr rfl ?_⟩⟩))
        refine iteA (fun σ H7 => ∃ F7, σ = [some (.int (src : Int)), some (.int (n : Int)), some (.ref lt), some (.ref ls), some (.ref l), p5, some (.int (k : Int)), some (.int (x.2.h : Int)), some (.int (x.2.t : Int)), some (.int x.2.m)] ∧ Same H H7 ∧ H7 l = some (.lst (nV F7)) ∧ Met35 (rows.map (·.2)) sp tree r k F7 ∧ (x.2.h ∈ F7 → at0 sp (2 * k) > 0 → x.2.t ∈ F7)) ?_ (fun c1 k0 => ?_) (fun c1 => ⟨F, rfl, s6, l6, m6, fun h => absurd h (of_decide_eq_false ((inn rfl).symm.trans c1))⟩)
        · rintro σ H7 ⟨F7, rfl, s7, l7, m7, hA⟩
          have fl7 := ml m7
          refine (zr rfl (zr rfl ⟨l, zr rfl ⟨.inl (SqL.of l7), rfl, ft F7, zr rfl ?_⟩⟩))
          refine iteA _ (fun _ _ h => h) (fun c1 k0 => ?_) (fun c1 => ⟨F7, ⟨_, _, _, _, _, rfl⟩, s7, l7, m7.next hx2 hA fun h => absurd h (of_decide_eq_false ((inn rfl).symm.trans c1))⟩)
          have c1 : x.2.t ∈ F7 := of_decide_eq_true ((inn rfl).symm.trans c1)
          refine (zr rfl (zr rfl ⟨l, zr rfl ⟨.inl (SqL.of l7), rfl, ft F7, zr rfl ?_⟩⟩))
          refine iteA _ k0 (fun c2 k0 => ?_) (fun c2 => ⟨F7, ⟨_, _, _, _, _, rfl⟩, s7, l7, m7.next hx2 hA fun _ _ => of_decide_eq_true ((inn rfl).symm.trans (by simpa using c2))⟩)
          have c2 : x.2.h ∉ F7 := of_decide_eq_false ((inn rfl).symm.trans (by simpa using c2))
          refine (zr rfl (zr rfl (ixl (s7 _ _ hls) (atI_nat (range_get hk)) (zr2 rfl rfl (zr rfl ?_)))))
          refine iteN _ k0 (fun c3 k0 => ?_) (fun c3 => ⟨F7, ⟨_, _, _, _, _, rfl⟩, s7, l7, m7.next hx2 hA fun _ h => absurd h (of_decide_eq_false c3)⟩)
          have c3 := of_decide_eq_true c3
          have hp : x.2.h ∈ pts tree := by have := cl _ (m7.sub _ c1) (2 * k + 1) (by omega) b2 c3; rwa [a2] at this
          refine (zr rfl ⟨.inl ⟨rfl, _, SqL.of l7⟩, zr rfl ⟨l, zr2 rfl rfl ⟨l7, by unfold nV; rw [List.length_map]; omega, k0 _ _ ⟨F7 ++ [x.2.h], ⟨_, _, _, _, _, rfl⟩, Same.put hl s7, by rw [upd_same]; unfold nV; rw [List.map_append]; rfl, (m7.more hp c2).next hx2 (fun _ _ => List.mem_append_left _ c1) fun _ _ => List.mem_append_right _ (.head _)⟩⟩⟩⟩)
        have c1 : x.2.h ∈ F := of_decide_eq_true ((inn rfl).symm.trans c1)
        refine (zr rfl (zr rfl ⟨l, zr rfl ⟨.inl (SqL.of l6), rfl, ft F, zr rfl ?_⟩⟩))
        refine iteA _ k0 (fun c2 k0 => ?_) (fun c2 => ⟨F, rfl, s6, l6, m6, fun _ _ => of_decide_eq_true ((inn rfl).symm.trans (by simpa using c2))⟩)
        have c2 : x.2.t ∉ F := of_decide_eq_false ((inn rfl).symm.trans (by simpa using c2))
        refine (zr rfl (zr rfl (ixl gv (atI_nat (range_get hk)) (zr rfl (zr2 rfl rfl (zr rfl ?_))))))
        refine iteN _ k0 (fun c3 k0 => ?_) (fun c3 => ⟨F, rfl, s6, l6, m6, fun _ h => by have := of_decide_eq_false c3; omega⟩)
        have c3 := of_decide_eq_true c3
        have hp : x.2.t ∈ pts tree := by have := cl _ (m6.sub _ c1) (2 * k) (by omega) b1 (by omega); rwa [a1] at this
        refine (zr rfl ⟨.inl ⟨rfl, _, SqL.of l6⟩, zr rfl ⟨l, zr2 rfl rfl ⟨l6, by unfold nV; rw [List.length_map]; omega, k0 _ _ ⟨F ++ [x.2.t], rfl, Same.put hl s6, by rw [upd_same]; unfold nV; rw [List.map_append]; rfl, m6.more hp c2, fun _ _ => List.mem_append_right _ (.head _)⟩⟩⟩⟩)
      · rintro σ H6 ⟨F, ⟨p5, p6, p7, p8, p9, rfl⟩, s6, l6, m6⟩
        rw [lr, Int.toNat_natCast, ← List.length_map (f := fun r : Addr × Tie => r.2)] at m6
        exact ⟨F, ⟨_, _, _, _, _, rfl⟩, s6, l6, m6.round tk⟩
    rintro σ H5 ⟨F, ⟨o5, o6, o7, o8, o9, rfl⟩, s5, l5, m5⟩
    rw [Int.toNat_natCast] at m5
    refine (zr rfl (zr rfl ⟨by omega, by omega, ?_⟩))
    refine comp_rangeB (lo := 0) (m := (n : Int).toNat) (fun i τ acc H6 => (∃ t0, τ = [t0, some (.ref l)]) ∧ acc = ((List.range i).map fun p => V.bl (decide (p ∈ pts tree))) ∧ H6 = H5) ⟨⟨_, rfl⟩, rfl, rfl⟩ (by omega) ?_ ?_ ?_
    · rintro i τ acc H6 ⟨_, rfl, rfl⟩
      rw [List.length_map, List.length_range]; exact Nat.le_refl _
    · rintro i τ acc H6 C hi ⟨⟨t0, rfl⟩, rfl, rfl⟩ hC
      rw [Int.zero_add]
      refine (zr rfl (zr rfl ⟨l, zr rfl ⟨.inl (SqL.of l5), rfl, by unfold nV; simp [flatV], ?_⟩⟩))
      rw [inV_nV]
      refine hC _ _ _ ⟨⟨_, rfl⟩, ?_, rfl⟩
      rw [List.range_succ, List.map_append]
      congr 1
      show [V.bl (decide (i ∈ F))] = [V.bl (decide (i ∈ pts tree))]
      congr 2
      exact decide_eq_decide.mpr (m5.all tk i)
    · rintro τ acc H6 ⟨_, rfl, rfl⟩ l9 h9
      refine q l9 _ (s5.trans (same_new h9)) ?_
      rw [Int.toNat_natCast]; exact upd_same
theorem sc__law_shown : FnScope ["_law_stream", "_law_ends_here", "_law_ties_here", "_law_total", "_law_many", "_law_source", "_law_goal", "_law_sent", "_law_near", "_law_over", "_law_k", "_law_here", "_law_there", "_law_most"] ["_law_stream", "_law_ends_here", "_law_ties_here", "_law_total"] (defScope s__law_shown) := ⟨rfl, rfl, rfl, by decide +kernel, rfl, by decide +kernel, by decide +kernel⟩
theorem ok__law_shown (T : Tx K mg a) : FnOk P w K mg base CX0 3 a.a__law_shown a.d__law_shown ["_law_stream", "_law_ends_here", "_law_ties_here", "_law_total"] (spShown35 a.c_Stream) := by
  have G_Stream_sent := @ok_Stream_sent P w _ _ base _ T
  have G_Stream_near := @ok_Stream_near P w _ _ base _ T
  have G__law_met := @ok__law_met P w _ _ base _ T
  refine T.F__law_shown.ok sc__law_shown (fun vs H Q E h => ?_) (fun cdv A outer s H vs Q E hr h => ?_)
  · obtain ⟨_, _, _, _, _, _, _, _, _, _, _, _, _, _, rfl, _⟩ := h; rfl
  · have nd := sc__law_shown.nd
    have hu := hr.units
    obtain ⟨x, dx, lA, lE, lS, as, src, n, g, rows, sp, t, lt, tot, rfl, st, ht, sn, gn, n9, hlt, each, r60, ng, nt, q⟩ := h
    refine ⟨_, (@bl_out _ _ _ (@bl_c _ _ _ _ _ _ (ps_asg (pv 1) (pg_tup' (n := 3) rfl rfl (pgs_cons (pg_name (i := 4) nd rfl (by first | exact Or.inl rfl | exact Or.inr rfl)) (pgs_cons (pg_name (i := 5) nd rfl (by first | exact Or.inl rfl | exact Or.inr rfl)) (pgs_cons (pg_name (i := 6) nd rfl (by first | exact Or.inl rfl | exact Or.inr rfl)) pgs_nil))))) (@bl_c _ _ _ _ _ _ (ps_setComp (ix := 7) nd rfl (by first | exact Or.inl rfl | exact Or.inr rfl) (own := ["_law_k"]) (caps := [0]) rfl (show CompScope ["_law_k"] [0] ["_law_stream", "_law_ends_here", "_law_ties_here", "_law_total", "_law_many", "_law_source", "_law_goal", "_law_sent", "_law_near", "_law_over", "_law_k", "_law_here", "_law_there", "_law_most"] (defScope s__law_shown) _ from ⟨rfl, by decide +kernel, by decide +kernel, by decide +kernel, by decide +kernel⟩) (pi_range1 rfl T.b_range (@pa_out _ _ _ (@pa_c _ _ _ _ _ (pe_callB (call_len_seq' rfl) (by rfl) T.b_len PySem.boot_len (@pa_out _ _ _ (@pa_c _ _ _ _ _ (pv 2) pa_n rfl))) pa_n rfl))) (fun _ _ _ _ => (pg_name (i := 0) (show List.Nodup (["_law_k", "_law_stream"] : List Str) from by decide +kernel) rfl (by first | exact Or.inl rfl | exact Or.inr rfl))) (fun _ _ _ _ => pts_nil) (fun _ _ _ _ => (pe_meth (pv 1) T.L_Stream T.M_Stream_sent G_Stream_sent (hr.mono (by decide)) T.i_Stream_sent .nil pass0 (@pa_out _ _ _ (@pa_c _ _ _ _ _ (pv 0) pa_n rfl))))) (@bl_c _ _ _ _ _ _ (ps_set (i := 8) nd rfl (by first | exact Or.inl rfl | exact Or.inr rfl) (pe_meth0 (pv 0) T.L_Stream T.M_Stream_near G_Stream_near (hr.mono (by decide)) T.i_Stream_near .nil pass0)) (@bl_c _ _ _ _ _ _ (@ps_if _ _ _ _ _ _ _ _ (@PW.pt _ _ _ (@pw_or _ _ _ _ _ _ _ (@pt_not _ _ _ _ (pt_val (pe_callB (call_isinst) (by rfl) T.b_isinstance PyProof.Rows.boot_isinstance (@pa_out _ _ _ (@pa_c _ _ _ _ _ (pv 8) (@pa_c _ _ _ _ _ (pe_bltn (v := V.ty "list") rfl T.b_list PyProof.Rows.boot_list rfl) pa_n rfl) rfl))))) (@pw_or1 _ _ _ _ (@pt_not _ _ _ _ (pt_val (pe_callB (call_all rfl rfl) (by rfl) T.b_all PyProof.Rows.boot_all (@pa_out _ _ _ (@pa_c _ _ _ _ _ (pe_comp (own := ["_law_one"]) (caps := []) rfl (show CompScope ["_law_one"] [] ["_law_stream", "_law_ends_here", "_law_ties_here", "_law_total", "_law_many", "_law_source", "_law_goal", "_law_sent", "_law_near", "_law_over", "_law_k", "_law_here", "_law_there", "_law_most"] (defScope s__law_shown) _ from ⟨rfl, by decide +kernel, by decide +kernel, by decide +kernel, by decide +kernel⟩) (@pi_list' _ _ _ _ _ rfl (pv 8)) (fun _ _ _ _ => (pg_name (i := 0) (show List.Nodup (["_law_one"] : List Str) from by decide +kernel) rfl (by first | exact Or.inl rfl | exact Or.inr rfl))) (fun _ _ _ _ => pts_nil) (fun _ _ _ _ => (pe_callB (call_isinst) (by rfl) T.b_isinstance PyProof.Rows.boot_isinstance (@pa_out _ _ _ (@pa_c _ _ _ _ _ (pv 0) (@pa_c _ _ _ _ _ (pe_bltn (v := V.ty "bool") rfl T.b_bool PyProof.Rows.boot_bool rfl) pa_n rfl) rfl))))) pa_n rfl)))))))) (@bl_out _ _ _ (@bl_1 _ _ _ (@ps_ret _ _ _ _ pe_bl))) pss_nil) (@bl_c _ _ _ _ _ _ (@ps_if _ _ _ _ _ _ _ _ (@PW.pt _ _ _ (@pw_or _ _ _ _ _ _ _ (@pt_cmpR _ _ _ _ _ _ _ _ (op_neE hu) (pv 8) (pe_call G__law_met (hr.mono (by decide)) rfl T.m__law_met T.k__law_met T.i__law_met .nil pass0 (@pa_out _ _ _ (@pa_c _ _ _ _ _ (pv 5) (@pa_c _ _ _ _ _ (pv 4) (@pa_c _ _ _ _ _ (pv 2) (@pa_c _ _ _ _ _ (pv 7) pa_n rfl) rfl) rfl) rfl))) (nomark _)) (@pw_or1 _ _ _ _ (pt_val (@pe_ix _ _ _ _ _ _ _ (ix_list' rfl) (pv 8) (pv 6) (fun _ _ => rfl)))))) (@bl_out _ _ _ (@bl_1 _ _ _ (@ps_ret _ _ _ _ pe_bl))) pss_nil) (@bl_c _ _ _ _ _ _ (ps_set (i := 9) nd rfl (by first | exact Or.inl rfl | exact Or.inr rfl) pe_int) (@bl_c _ _ _ _ _ _ (ps_for PassesOwn.never rfl (pi_range1 rfl T.b_range (@pa_out _ _ _ (@pa_c _ _ _ _ _ (pe_callB (call_len_seq' rfl) (by rfl) T.b_len PySem.boot_len (@pa_out _ _ _ (@pa_c _ _ _ _ _ (pv 2) pa_n rfl))) pa_n rfl))) (pg_name (i := 10) nd rfl (by first | exact Or.inl rfl | exact Or.inr rfl)) (@bl_out _ _ _ (@bl_c _ _ _ _ _ _ (ps_asg (@pe_ix _ _ _ _ _ _ _ (ix_list' rfl) (pv 2) (pv 10) (fun _ _ => rfl)) (pg_tup' (n := 3) rfl rfl (pgs_cons (pg_name (i := 11) nd rfl (by first | exact Or.inl rfl | exact Or.inr rfl)) (pgs_cons (pg_name (i := 12) nd rfl (by first | exact Or.inl rfl | exact Or.inr rfl)) (pgs_cons (pg_name (i := 13) nd rfl (by first | exact Or.inl rfl | exact Or.inr rfl)) pgs_nil))))) (@bl_1 _ _ _ (@ps_if _ _ _ _ _ _ _ _ (@PW.pt _ _ _ (@pw_and _ _ _ _ _ _ _ (pt_val (@pe_ix _ _ _ _ _ _ _ (ix_list' rfl) (pv 8) (pv 11) (fun _ _ => rfl))) (@pw_and1 _ _ _ _ (@pt_not _ _ _ _ (pt_val (@pe_ix _ _ _ _ _ _ _ (ix_list' rfl) (pv 8) (pv 12) (fun _ _ => rfl))))))) (@bl_out _ _ _ (@bl_1 _ _ _ (ps_set (i := 9) nd rfl (by first | exact Or.inl rfl | exact Or.inr rfl) (@pe_op _ _ _ _ _ _ _ _ op_add (pv 9) (pv 13))))) pss_nil))))) (@bl_c _ _ _ _ _ _ (ps_expr (pe_bm PySem.F.plainAttrs_list PySem.F.slot_list_append PySem.F.type_list_append mt_append (pv 8) (@pa_out _ _ _ (@pa_c _ _ _ _ _ pe_bl pa_n rfl)))) (@bl_1 _ _ _ (@ps_ret _ _ _ _ (@pe_cmpR _ _ _ _ _ _ _ _ op_eq (pv 9) (pv 3) (nomark _))))))))))))), ?_⟩
    have line : 8000 ≤ sizeLine := by rw [sizeLine_eq]; decide
    have lr : (rows.map fun r => V.ref r.1).length = rows.length := List.length_map ..
    refine (zr rfl (un3 ht ?_))
    refine (zr rfl ⟨lt, zr rfl ⟨.inl (SqL.of hlt), zr rfl ⟨by omega, by omega, ?_⟩⟩⟩)
    refine comp_rangeB (lo := 0) (m := ((rows.map fun r => V.ref r.1).length : Int).toNat) (fun i τ acc H5 => (∃ t0, τ = [t0, some (.ref x)]) ∧ acc = ((List.range i).map fun k => V.int (at0 sp (2 * k + 1))) ∧ H5 = H) ?_ (by omega) ?_ ?_ ?_
    · exact ⟨⟨_, rfl⟩, rfl, rfl⟩
    · rintro i τ acc H5 ⟨_, rfl, rfl⟩
      rw [List.length_map, List.length_range]; exact Nat.le_refl _
    · rintro i τ acc H5 C hi ⟨⟨t0, rfl⟩, rfl, rfl⟩ hC
      have hi : i < rows.length := by rw [← lr]; omega
      rw [Int.zero_add]
      refine (zr rfl ⟨x, dx, zr rfl ⟨st.raw.ins, rfl, zr rfl ⟨x, dx, lA, lE, lS, as, _, n, _, _, i, rfl, st, by rw [List.length_map]; exact hi, hC _ _ _ ⟨⟨_, rfl⟩, ?_, rfl⟩⟩⟩⟩)
      rw [List.range_succ, List.map_append]; rfl
    rintro τ acc H5 ⟨_, rfl, rfl⟩ ls fls
    rw [lr, Int.toNat_natCast]
    have s1 : Same H5 (upd H5 ls (.lst ((List.range rows.length).map fun k => V.int (at0 sp (2 * k + 1))))) := same_new fls
    have h1 : upd H5 ls (.lst ((List.range rows.length).map fun k => V.int (at0 sp (2 * k + 1)))) ls = some (.lst ((List.range rows.length).map fun k => V.int (at0 sp (2 * k + 1)))) := upd_same
    generalize upd H5 ls _ = H1 at s1 h1 ⊢
    have st1 := st.same s1
    refine (zr rfl ⟨x, dx, zr rfl ⟨st1.raw.ins, rfl, x, dx, lA, lE, lS, as, src, n, zr1 rfl ⟨st1, sn, fun l tree H2 s2 f2 h2 tk cl => ?_⟩⟩⟩)
    have s12 := s1.trans s2
    refine (zr rfl ⟨_, "list", "list", rfl, tyS_lst h2, .inr (.inr (.inl rfl)), zr rfl (iteB0 rfl ?_)⟩)
    refine (zr rfl ⟨l, rfl, ⟨_, SqL.of h2⟩, ?_⟩)
    refine comp_list (K := K) (a := l) (xs := (List.range n).map fun p => V.bl (decide (p ∈ pts tree))) (fun i τ acc H6 => (∃ t0, τ = [t0]) ∧ acc = (List.replicate i true).map V.bl ∧ H6 = H2) ⟨⟨_, rfl⟩, rfl, rfl⟩ (by rw [List.length_map, List.length_range]; omega) ?_ ?_ ?_
    · rintro i τ acc H6 ⟨_, rfl, rfl⟩
      exact ⟨by simp, SqL.of h2⟩
    · rintro i z τ acc H6 C hz ⟨⟨t0, rfl⟩, rfl, rfl⟩ hC
      obtain ⟨j, _, rfl⟩ := map_get hz
      exact (zr rfl ⟨_, "bool", "bool", rfl, rfl, .inr (.inl rfl), hC _ _ _ ⟨⟨_, rfl⟩, by rw [List.replicate_succ', List.map_append]; rfl, rfl⟩⟩)
    rintro τ acc H6 ⟨_, rfl, rfl⟩ l5 f5
    have s3 := same_new (o := HO.lst ((List.replicate ((List.range n).map fun p => V.bl (decide (p ∈ pts tree))).length true).map V.bl)) f5
    refine ⟨l5, zr rfl ⟨SqL.of upd_same, ?_⟩⟩
    generalize upd H6 l5 _ = H3 at s3 ⊢
    have e5 : (List.replicate ((List.range n).map fun p => V.bl (decide (p ∈ pts tree))).length true).all id = true := by simp
    rw [e5]
    have s13 := s12.trans s3
    have gg := ng tree tk
    refine (zr rfl (iteB0 rfl ?_))
    refine (zr rfl (zr rfl (zr rfl (zr rfl (zr rfl ⟨src, n, lt, ls, rows, sp, tree, rfl, n9, s13 _ _ hlt, fun r hr => s13 _ _ (each r hr).1, r60, s3 _ _ (s2 _ _ h1), st.snd, tk, cl, fun l7 H7 s7 h7 => ?_⟩)))))
    refine eq_flat34 (l := l) (d := l7) (neg := true) (fun u hu0 => by obtain ⟨z, _, rfl⟩ := List.mem_map.mp hu0; rfl) (s7 _ _ (s3 _ _ h2)) h7 (zr rfl (iteB0 rfl ?_))
    have h27 := s7 _ _ (s3 _ _ h2)
    have s17 := s13.trans s7
    refine (zr rfl (zr rfl (ixl h27 (atI_nat (range_get gn)) (zr rfl (iteB0 (decide_eq_false gg) ?_)))))
    refine (zr rfl ⟨lt, zr rfl ⟨.inl (SqL.of (s17 _ _ hlt)), zr rfl ⟨by omega, by omega, ?_⟩⟩⟩)
    refine for_range (lo := 0) (n := ((rows.map fun r => V.ref r.1).length : Int).toNat) (fun i σ H8 => (∃ o10 o11 o12 o13, σ = [some (.ref x), some (.ref t), some (.ref lt), some (.int tot), some (.int (n : Int)), some (.int (src : Int)), some (.int (g : Int)), some (.ref ls), some (.ref l), some (.int (cutS (rows.map (·.2)) (pts tree) i)), o10, o11, o12, o13]) ∧ H8 = H7) ⟨⟨_, _, _, _, rfl⟩, rfl⟩ ?_ ?_
    · rintro i σ H8 hi ⟨⟨o10, o11, o12, o13, rfl⟩, rfl⟩
      have hi : i < rows.length := by rw [← lr]; omega
      obtain ⟨r, hr⟩ : ∃ r, rows[i]? = some r := ⟨_, List.getElem?_eq_getElem hi⟩
      obtain ⟨r1, r2, r3⟩ := each r (List.mem_of_getElem? hr)
      have hx : (rows.map (·.2))[i]? = some r.2 := by rw [List.getElem?_map, hr]; rfl
      have ec : cutS (rows.map (·.2)) (pts tree) (i + 1) = cutS (rows.map (·.2)) (pts tree) i + (if r.2.h ∈ pts tree ∧ r.2.t ∉ pts tree then r.2.m else 0) := by
        show cutS _ _ i + (match (rows.map (·.2))[i]? with | some x => _ | none => _) = _
        rw [hx]
      rw [Int.zero_add]
      refine (zr rfl (zr rfl ⟨lt, _, _, V.ref r.1, rfl, rfl, SqL.of (s17 _ _ hlt), atI_nat (by rw [List.getElem?_map, hr]; rfl), un3 (s17 _ _ r1) ?_⟩))
      refine (zr rfl (zr rfl (ixl h27 (atI_nat (range_get r2)) (zr rfl ?_))))
      refine iteA _ (fun _ _ h => h) (fun c1 k0 => ?_) (fun c1 => ⟨⟨_, _, _, _, by rw [ec, if_neg (fun h => of_decide_eq_false c1 h.1), Int.add_zero]; rfl⟩, rfl⟩)
      have c1 := of_decide_eq_true c1
      refine (zr rfl (zr rfl (ixl h27 (atI_nat (range_get r3)) (zr rfl ?_))))
      refine iteN _ k0 (fun c2 k0 => ?_) (fun c2 => ⟨⟨_, _, _, _, by rw [ec, if_neg (fun h => h.2 (of_decide_eq_true (by simpa using c2))), Int.add_zero]; rfl⟩, rfl⟩)
      have c2 : r.2.t ∉ pts tree := by simpa using c2
      refine (zr rfl (zr rfl (zr2 rfl rfl (k0 _ _ ⟨⟨_, _, _, _, by rw [ec, if_pos ⟨c1, c2⟩]; rfl⟩, rfl⟩))))
    rintro σ H8 ⟨⟨o10, o11, o12, o13, rfl⟩, rfl⟩
    rw [lr, Int.toNat_natCast]
    have ct := cut_tot (S := pts tree) st.snd tk.nd cl tk.src gg (by rw [List.length_map]; exact nt)
    rw [List.length_map] at ct
    rw [ct]
    refine (zr rfl ⟨.inl ⟨rfl, _, SqL.of h27⟩, l, zr2 rfl rfl ⟨h27, by rw [List.length_map, List.length_range]; omega, ?_⟩⟩)
    refine (zr rfl (zr rfl ⟨rfl, ?_⟩))
    rw [decide_eq_true rfl]
    exact q _ (Same.put (s1.free f2) s17)
theorem sc_law : FnScope ["_law_script", "_law_ends_of", "_law_ties_of", "_law_streams", "_law_totals", "_law_at", "_law_before"] ["_law_script"] (defScope s_law) := ⟨rfl, rfl, rfl, by decide +kernel, rfl, by decide +kernel, by decide +kernel⟩
theorem ok_law (T : Tx K mg a) : FnOk P w K mg base CX0 4 a.a_law a.d_law ["_law_script"] (spLaw K) := by
  have G_Stream___init__ := @ok_Stream___init__ P w _ _ base _ T
  have G_Stream_send := @ok_Stream_send P w _ _ base _ T
  have G__law_ties := @ok__law_ties P w _ _ base _ T
  have G__law_ends := @ok__law_ends P w _ _ base _ T
  have G__law_tied := @ok__law_tied P w _ _ base _ T
  have G__law_shown := @ok__law_shown P w _ _ base _ T
  refine T.F_law.ok sc_law (fun vs H Q E h => ?_) (fun cdv A outer s H vs Q E hr h => ?_)
  · obtain ⟨_, _, rfl, _⟩ := h; rfl
  · have nd := sc_law.nd
    have hu := hr.units
    obtain ⟨sa, ns, rfl, hS, hn, q⟩ := h
    refine ⟨_, (@bl_out _ _ _ (@bl_c _ _ _ _ _ _ (ps_set (i := 1) nd rfl (by first | exact Or.inl rfl | exact Or.inr rfl) (@pe_lst _ _ _ _ (@pa_out _ _ _ (@pa_c _ _ _ _ _ (pe_call G__law_ends (hr.mono (by decide)) rfl T.m__law_ends T.k__law_ends T.i__law_ends .nil pass0 (@pa_out _ _ _ (@pa_c _ _ _ _ _ (pv 0) (@pa_c _ _ _ _ _ pe_int pa_n rfl) rfl))) (@pa_c _ _ _ _ _ (pe_call G__law_ends (hr.mono (by decide)) rfl T.m__law_ends T.k__law_ends T.i__law_ends .nil pass0 (@pa_out _ _ _ (@pa_c _ _ _ _ _ (pv 0) (@pa_c _ _ _ _ _ pe_int pa_n rfl) rfl))) pa_n rfl) rfl)))) (@bl_c _ _ _ _ _ _ (ps_setComp (ix := 2) nd rfl (by first | exact Or.inl rfl | exact Or.inr rfl) (own := ["_law_at"]) (caps := [0, 1]) rfl (show CompScope ["_law_at"] [0, 1] ["_law_script", "_law_ends_of", "_law_ties_of", "_law_streams", "_law_totals", "_law_at", "_law_before"] (defScope s_law) _ from ⟨rfl, by decide +kernel, by decide +kernel, by decide +kernel, by decide +kernel⟩) (pi_range1 rfl T.b_range (@pa_out _ _ _ (@pa_c _ _ _ _ _ pe_int pa_n rfl))) (fun _ _ _ _ => (pg_name (i := 0) (show List.Nodup (["_law_at", "_law_script", "_law_ends_of"] : List Str) from by decide +kernel) rfl (by first | exact Or.inl rfl | exact Or.inr rfl))) (fun _ _ _ _ => pts_nil) (fun _ _ _ _ => (pe_call G__law_ties (hr.mono (by decide)) rfl T.m__law_ties T.k__law_ties T.i__law_ties .nil pass0 (@pa_out _ _ _ (@pa_c _ _ _ _ _ (pv 1) (@pa_c _ _ _ _ _ (@pe_ix _ _ _ _ _ _ _ (ix_tup' rfl) (@pe_ix _ _ _ _ _ _ _ (ix_list' rfl) (pv 2) (pv 0) (fun _ _ => rfl)) pe_int (fun _ _ => rfl)) (@pa_c _ _ _ _ _ (@pe_op _ _ _ _ _ _ _ _ op_add pe_int (pv 0)) pa_n rfl) rfl) rfl))))) (@bl_c _ _ _ _ _ _ (ps_set (i := 3) nd rfl (by first | exact Or.inl rfl | exact Or.inr rfl) (@pe_lst _ _ _ _ (@pa_out _ _ _ (@pa_c _ _ _ _ _ (pe_make T.Y_Stream G_Stream___init__ (hr.mono (by decide)) rfl T.m_Stream T.i_Stream___init__ .nil pass0 (@pa_out _ _ _ (@pa_c _ _ _ _ _ (@pe_ix _ _ _ _ _ _ _ (ix_tup' rfl) (@pe_ix _ _ _ _ _ _ _ (ix_list' rfl) (pv 1) pe_int (fun _ _ => rfl)) pe_int (fun _ _ => rfl)) pa_n rfl))) (@pa_c _ _ _ _ _ (pe_make T.Y_Stream G_Stream___init__ (hr.mono (by decide)) rfl T.m_Stream T.i_Stream___init__ .nil pass0 (@pa_out _ _ _ (@pa_c _ _ _ _ _ (@pe_ix _ _ _ _ _ _ _ (ix_tup' rfl) (@pe_ix _ _ _ _ _ _ _ (ix_list' rfl) (pv 1) pe_int (fun _ _ => rfl)) pe_int (fun _ _ => rfl)) pa_n rfl))) pa_n rfl) rfl)))) (@bl_c _ _ _ _ _ _ (ps_expr (pe_call G__law_tied (hr.mono (by decide)) rfl T.m__law_tied T.k__law_tied T.i__law_tied .nil pass0 (@pa_out _ _ _ (@pa_c _ _ _ _ _ (pv 3) (@pa_c _ _ _ _ _ (pv 2) pa_n rfl) rfl)))) (@bl_c _ _ _ _ _ _ (ps_set (i := 4) nd rfl (by first | exact Or.inl rfl | exact Or.inr rfl) (@pe_lst _ _ _ _ pa_nil)) (@bl_c _ _ _ _ _ _ (ps_for PassesOwn.never rfl (pi_range1 rfl T.b_range (@pa_out _ _ _ (@pa_c _ _ _ _ _ pe_int pa_n rfl))) (pg_name (i := 5) nd rfl (by first | exact Or.inl rfl | exact Or.inr rfl)) (@bl_out _ _ _ (@bl_c _ _ _ _ _ _ (ps_expr (pe_bm PySem.F.plainAttrs_list PySem.F.slot_list_append PySem.F.type_list_append mt_append (pv 4) (@pa_out _ _ _ (@pa_c _ _ _ _ _ (pe_meth (@pe_ix _ _ _ _ _ _ _ (ix_list' rfl) (pv 3) (pv 5) (fun _ _ => rfl)) T.L_Stream T.M_Stream_send G_Stream_send (hr.mono (by decide)) T.i_Stream_send .nil pass0 (@pa_out _ _ _ (@pa_c _ _ _ _ _ (@pe_ix _ _ _ _ _ _ _ (ix_tup' rfl) (@pe_ix _ _ _ _ _ _ _ (ix_list' rfl) (pv 1) (pv 5) (fun _ _ => rfl)) pe_int (fun _ _ => rfl)) (@pa_c _ _ _ _ _ (@pe_ix _ _ _ _ _ _ _ (ix_tup' rfl) (@pe_ix _ _ _ _ _ _ _ (ix_list' rfl) (pv 1) (pv 5) (fun _ _ => rfl)) pe_int (fun _ _ => rfl)) pa_n rfl) rfl))) pa_n rfl)))) (@bl_1 _ _ _ (ps_for PassesOwn.never rfl (pi_range1 rfl T.b_range (@pa_out _ _ _ (@pa_c _ _ _ _ _ (@pe_op _ _ _ _ _ _ _ _ op_add (pv 5) pe_int) pa_n rfl))) (pg_name (i := 6) nd rfl (by first | exact Or.inl rfl | exact Or.inr rfl)) (@bl_out _ _ _ (@bl_1 _ _ _ (@ps_if _ _ _ _ _ _ _ _ (@pt_not _ _ _ _ (pt_val (pe_call G__law_shown (hr.mono (by decide)) rfl T.m__law_shown T.k__law_shown T.i__law_shown .nil pass0 (@pa_out _ _ _ (@pa_c _ _ _ _ _ (@pe_ix _ _ _ _ _ _ _ (ix_list' rfl) (pv 3) (pv 6) (fun _ _ => rfl)) (@pa_c _ _ _ _ _ (@pe_ix _ _ _ _ _ _ _ (ix_list' rfl) (pv 1) (pv 6) (fun _ _ => rfl)) (@pa_c _ _ _ _ _ (@pe_ix _ _ _ _ _ _ _ (ix_list' rfl) (pv 2) (pv 6) (fun _ _ => rfl)) (@pa_c _ _ _ _ _ (@pe_ix _ _ _ _ _ _ _ (ix_list' rfl) (pv 4) (pv 6) (fun _ _ => rfl)) pa_n rfl) rfl) rfl) rfl))))) (@bl_out _ _ _ (@bl_1 _ _ _ (@ps_ret _ _ _ _ pe_bl))) pss_nil)))))))) (@bl_1 _ _ _ (@ps_ret _ _ _ _ (pe_call G__law_shown (hr.mono (by decide)) rfl T.m__law_shown T.k__law_shown T.i__law_shown .nil pass0 (@pa_out _ _ _ (@pa_c _ _ _ _ _ (@pe_ix _ _ _ _ _ _ _ (ix_list' rfl) (pv 3) pe_int (fun _ _ => rfl)) (@pa_c _ _ _ _ _ (@pe_ix _ _ _ _ _ _ _ (ix_list' rfl) (pv 1) pe_int (fun _ _ => rfl)) (@pa_c _ _ _ _ _ (@pe_ix _ _ _ _ _ _ _ (ix_list' rfl) (pv 2) pe_int (fun _ _ => rfl)) (@pa_c _ _ _ _ _ (@pe_ix _ _ _ _ _ _ _ (ix_list' rfl) (pv 4) pe_int (fun _ _ => rfl)) pa_n rfl) rfl) rfl) rfl)))))))))))), ?_⟩
    have line : 8000 ≤ sizeLine := by rw [sizeLine_eq]; decide
    refine (zr rfl ⟨sa, ns, 0, rfl, hS, by decide, fun t0 n0 s0 g0 H1 S1 ht0 n02 n09 sn0 gn0 ne0 => (zr rfl ⟨sa, ns, 1, rfl, S1.seq hS, by decide, fun t1 n1 s1 g1 H2 S2 ht1 n12 n19 sn1 gn1 ne1 => ⟨by show 2 ≤ _; omega, fun le fle => ?_⟩⟩)⟩)
    have S3 : Same H2 (upd H2 le (.lst [V.ref t0, V.ref t1])) := same_new fle
    have hle3 : upd H2 le (.lst [V.ref t0, V.ref t1]) le = some (.lst [V.ref (two35 t0 t1 0), V.ref (two35 t0 t1 1)]) := upd_same
    show gName 1 (V.ref le) _ (upd H2 le (.lst [V.ref t0, V.ref t1])) _
    generalize upd H2 le _ = H3 at S3 hle3 ⊢
    have hS3 := (S1.trans (S2.trans S3)).seq hS
    have fe : ∀ i, i < 2 → H3 (two35 t0 t1 i) = some (.tup (endV (two35 n0 n1 i) (two35 s0 s1 i) (two35 g0 g1 i))) ∧ 2 ≤ two35 n0 n1 i ∧ two35 n0 n1 i ≤ 9 ∧ two35 s0 s1 i < two35 n0 n1 i ∧ two35 g0 g1 i < two35 n0 n1 i ∧ two35 s0 s1 i ≠ two35 g0 g1 i := fun i hi => by
      rcases (by omega : i = 0 ∨ i = 1) with rfl | rfl
      · exact ⟨S3 _ _ (S2 _ _ ht0), n02, n09, sn0, gn0, ne0⟩
      · exact ⟨S3 _ _ ht1, n12, n19, sn1, gn1, ne1⟩
    refine ⟨2, rfl, by decide, by decide, ?_⟩
    refine comp_range (lo := 0) (m := 2) (fun i τ acc H5 => ∃ tl : List (Addr × List (Addr × Tie)), (∃ z, τ = [z, some (.ref sa), some (.ref le)]) ∧ acc = (tl.map fun y => V.ref y.1) ∧ tl.length = i ∧ Same H3 H5 ∧ ∀ (k : Nat) y, tl[k]? = some y → H5 y.1 = some (.lst (y.2.map fun r => V.ref r.1)) ∧ (∀ r ∈ y.2, H5 r.1 = some (.tup (tieV r.2)) ∧ r.2.h < two35 n0 n1 k ∧ r.2.t < two35 n0 n1 k ∧ 0 ≤ r.2.m) ∧ y.2.length ≤ 60) ?_ (by omega) ?_ ?_ ?_
    · exact ⟨[], ⟨_, rfl⟩, rfl, rfl, Same.refl _, fun k y h => by cases h⟩
    · rintro i τ acc H5 ⟨tl, _, rfl, rfl, _⟩
      rw [List.length_map]; exact Nat.le_refl _
    · rintro i τ acc H5 C hi ⟨tl, ⟨z, rfl⟩, rfl, hl, S5, f5⟩ hC
      obtain ⟨e1, e2, e3, e4, e5, e6⟩ := fe i hi
      rw [Int.zero_add]
      refine (zr rfl (zr rfl (zr rfl ⟨le, _, _, V.ref (two35 t0 t1 i), rfl, rfl, SqL.of (S5 _ _ hle3), pick2 hi, ixt (S5 _ _ e1) rfl (zr rfl (zr2 rfl rfl ⟨sa, ns, two35 n0 n1 i, i, (by show [V.ref sa, V.int ((two35 n0 n1 i : Nat) : Int), V.int (2 + (i : Int))] = _; rw [show ((2 : Int) + (i : Int)) = ((2 + i : Nat) : Int) by omega]), S5.seq hS3, hn, e2, e3, hi, fun l rows H6 S6 fl hl6 each6 r60 => ?_⟩))⟩)))
      refine hC _ _ _ ⟨tl ++ [(l, rows)], ⟨_, rfl⟩, by rw [List.map_append]; rfl, by rw [List.length_append, hl]; rfl, S5.trans S6, fun k y hy => ?_⟩
      by_cases c : k < tl.length
      · rw [List.getElem?_append_left c] at hy
        obtain ⟨y1, y2, y3⟩ := f5 k y hy
        exact ⟨S6 _ _ y1, fun r hr => ⟨S6 _ _ (y2 r hr).1, (y2 r hr).2⟩, y3⟩
      · have hk := (List.getElem?_eq_some_iff.mp hy).1
        rw [List.length_append] at hk
        obtain rfl : k = tl.length := by have : k < tl.length + 1 := hk; omega
        rw [List.getElem?_append_right (Nat.le_refl _), Nat.sub_self] at hy
        cases hy
        rw [hl]
        exact ⟨hl6, each6, r60⟩
    rintro τ acc H5 ⟨tl, _, rfl, hl, S5, f5⟩ l2 fl2
    obtain ⟨y0, y1, rfl⟩ : ∃ y0 y1, tl = [y0, y1] := by
      match tl, hl with
      | [y0, y1], _ => exact ⟨y0, y1, rfl⟩
    have S7 : Same H5 (upd H5 l2 (.lst [V.ref y0.1, V.ref y1.1])) := same_new fl2
    have h27 : upd H5 l2 (.lst [V.ref y0.1, V.ref y1.1]) l2 = some (.lst [V.ref y0.1, V.ref y1.1]) := upd_same
    show gName 2 (V.ref l2) _ (upd H5 l2 (.lst [V.ref y0.1, V.ref y1.1])) _
    generalize upd H5 l2 _ = H7 at S7 h27 ⊢
    have S37 := S5.trans S7
    have fy : ∀ i, i < 2 → H7 (two35 y0 y1 i).1 = some (.lst ((two35 y0 y1 i).2.map fun r => V.ref r.1)) ∧ (∀ r ∈ (two35 y0 y1 i).2, H7 r.1 = some (.tup (tieV r.2)) ∧ r.2.h < two35 n0 n1 i ∧ r.2.t < two35 n0 n1 i ∧ 0 ≤ r.2.m) ∧ (two35 y0 y1 i).2.length ≤ 60 := fun i hi => by
      have : ([y0, y1] : List (Addr × List (Addr × Tie)))[i]? = some (two35 y0 y1 i) := by rcases (by omega : i = 0 ∨ i = 1) with rfl | rfl <;> rfl
      obtain ⟨z1, z2, z3⟩ := f5 i _ this
      exact ⟨S7 _ _ z1, fun r hr => ⟨S7 _ _ (z2 r hr).1, (z2 r hr).2⟩, z3⟩
    refine (zr rfl ⟨le, _, _, V.ref t0, rfl, rfl, SqL.of (S37 _ _ hle3), rfl, t0, _, _, V.int (n0 : Int), rfl, rfl, SqT.of (S37 _ _ (fe 0 (by omega)).1), rfl, fun x0 dx0 fx0 fdx0 ndx0 => ⟨x0, dx0, n0, rfl, upd_same, by omega, fun lA0 lE0 lS0 as0 H8 b8 st8 fr8 => ⟨rfl, ?_⟩⟩⟩)
    have S8 := made_same fx0 fdx0 b8
    have fr0 : ∀ b ∈ x0 :: lA0 :: lE0 :: lS0 :: as0, H7 b = none := fun b hb => by
      rcases List.mem_cons.mp hb with rfl | hb
      · exact fx0
      · exact made_free (fr8 b hb)
    refine (zr rfl ⟨le, _, _, V.ref t1, rfl, rfl, SqL.of (S8 _ _ (S37 _ _ hle3)), rfl, t1, _, _, V.int (n1 : Int), rfl, rfl, SqT.of (S8 _ _ (S37 _ _ (fe 1 (by omega)).1)), rfl, fun x1 dx1 fx1 fdx1 ndx1 => ⟨x1, dx1, n1, rfl, upd_same, by omega, fun lA1 lE1 lS1 as1 H9 b9 st9 fr9 => ⟨rfl, ?_⟩⟩⟩)
    have S9 := made_same fx1 fdx1 b9
    have fr1 : ∀ b ∈ x1 :: lA1 :: lE1 :: lS1 :: as1, H8 b = none := fun b hb => by
      rcases List.mem_cons.mp hb with rfl | hb
      · exact fx1
      · exact made_free (fr9 b hb)
    refine ⟨by show 2 ≤ _; omega, fun l1 fl1 => ?_⟩
    obtain ⟨f, ef⟩ : ∃ f : Nat → S35, f = two35 ⟨x0, dx0, lA0, lE0, lS0, as0, n0, y0.1, y0.2⟩ ⟨x1, dx1, lA1, lE1, lS1, as1, n1, y1.1, y1.2⟩ := ⟨_, rfl⟩
    have st98 := st8.same S9
    have S10 : Same H9 (upd H9 l1 (.lst [V.ref x0, V.ref x1])) := same_new fl1
    have h10 : upd H9 l1 (.lst [V.ref x0, V.ref x1]) l1 = some (.lst [V.ref (f 0).x, V.ref (f 1).x]) := by rw [upd_same, ef]; rfl
    show gName 3 (V.ref l1) _ (upd H9 l1 (.lst [V.ref x0, V.ref x1])) _
    generalize upd H9 l1 _ = H10 at S10 h10 ⊢
    have S710 : Same H7 H10 := S8.trans (S9.trans S10)
    have own7 : ∀ b u, H7 b = some u → b ∉ (f 0).own ++ (f 1).own := fun b u e h => by
      rw [ef] at h
      rcases List.mem_append.mp h with h | h
      · rw [fr0 b h] at e; cases e
      · have := S8 _ _ e; rw [fr1 b h] at this; cases this
    have own10 : ∀ b ∈ (f 0).own ++ (f 1).own, H10 b ≠ none := fun b h => by
      rw [ef] at h
      rcases List.mem_append.mp h with h | h
      · exact own_some (st98.same S10) b h
      · exact own_some (st9.same S10) b h
    have l1n : l1 ∉ (f 0).own ++ (f 1).own := fun h => by
      rw [ef] at h
      rcases List.mem_append.mp h with h | h
      · exact own_some st98 l1 h fl1
      · exact own_some st9 l1 h fl1
    have dj : ∀ b ∈ (f 0).own, b ∉ (f 1).own := fun b h h2 => by
      rw [ef] at h h2
      exact own_some st8 b h (fr1 b h2)
    have at10 : ∀ i, i < 2 → (f i).At a.c_Stream H10 0 0 [] ∧ (f i).Tied H10 := fun i hi => by
      rw [ef]
      rcases (by omega : i = 0 ∨ i = 1) with rfl | rfl
      · obtain ⟨z1, z2, z3⟩ := fy 0 (by omega)
        exact ⟨st98.same S10, S710 _ _ z1, fun r hr => ⟨S710 _ _ (z2 r hr).1, (z2 r hr).2⟩, z3⟩
      · obtain ⟨z1, z2, z3⟩ := fy 1 (by omega)
        exact ⟨st9.same S10, S710 _ _ z1, fun r hr => ⟨S710 _ _ (z2 r hr).1, (z2 r hr).2⟩, z3⟩
    have alt : ∀ i, i < 2 → (f i).lt ∉ (f 0).own ++ (f 1).own ∧ ∀ r ∈ (f i).rows, r.1 ∉ (f 0).own ++ (f 1).own := fun i hi => by
      obtain ⟨z1, z2, z3⟩ := fy i hi
      have e1 : (f i).lt = (two35 y0 y1 i).1 := by rw [ef]; rcases (by omega : i = 0 ∨ i = 1) with rfl | rfl <;> rfl
      have e2 : (f i).rows = (two35 y0 y1 i).2 := by rw [ef]; rcases (by omega : i = 0 ∨ i = 1) with rfl | rfl <;> rfl
      rw [e1, e2]
      exact ⟨own7 _ _ z1, fun r hr => own7 _ _ (z2 r hr).1⟩
    have h210 : H10 l2 = some (.lst [V.ref (f 0).lt, V.ref (f 1).lt]) := by rw [ef]; exact S710 _ _ h27
    have w10 : W35 ((f 0).own ++ (f 1).own) le l1 l2 (two35 t0 t1) f (two35 s0 s1) (two35 g0 g1) H10 := ⟨S710 _ _ (S37 _ _ hle3), h10, h210, fun i hi => by
      have := S710 _ _ (S37 _ _ (fe i hi).1)
      rw [ef]
      rcases (by omega : i = 0 ∨ i = 1) with rfl | rfl <;> exact this, fun i hi => (at10 i hi).2, own7 _ _ (S37 _ _ hle3), l1n, own7 _ _ h27, fun i hi => own7 _ _ (S37 _ _ (fe i hi).1), alt⟩
    have fn : ∀ i, i < 2 → 2 ≤ (f i).n ∧ (f i).n ≤ 9 ∧ two35 s0 s1 i < (f i).n ∧ two35 g0 g1 i < (f i).n ∧ two35 s0 s1 i ≠ two35 g0 g1 i := fun i hi => by
      have := (fe i hi).2
      rw [ef]
      rcases (by omega : i = 0 ∨ i = 1) with rfl | rfl <;> exact this
    clear fe fy ef
    generalize two35 t0 t1 = tt at w10 ⊢
    generalize two35 s0 s1 = ss at w10 fn ⊢
    generalize two35 g0 g1 = gg at w10 fn ⊢
    refine (zr rfl (zr rfl ⟨l1, l2, f, rfl, h10, h210, at10, dj, l1n, own7 _ _ h27, alt, fun v H11 k11 at11 => ?_⟩))
    have w11 := w10.kept k11
    refine ⟨by show 0 ≤ _; omega, fun lT fT => ?_⟩
    have w12 : W35 (lT :: ((f 0).own ++ (f 1).own)) le l1 l2 tt f ss gg (upd H11 lT (.lst [])) := w11.new fT
    have on11 : ∀ i, i < 2 → (f i).On a.c_Stream H11 0 (spr ((f i).rows.map (·.2))) := fun i hi => by
      have := at11 i hi
      unfold S35.At at this
      rw [List.take_length] at this
      exact this
    have ownT : ∀ i, i < 2 → ∀ b ∈ (f i).own, b ∉ [lT] := fun i hi b hb h => by
      rw [List.mem_singleton.mp h] at hb
      exact own_some (on11 i hi) lT hb fT
    have lTn : lT ∉ (f 0).own ++ (f 1).own := fun h => by
      rcases List.mem_append.mp h with h | h
      · exact ownT 0 (by omega) lT h (.head _)
      · exact ownT 1 (by omega) lT h (.head _)
    have on12 : ∀ i, i < 2 → (f i).On a.c_Stream (upd H11 lT (.lst [])) 0 (spr ((f i).rows.map (·.2))) := fun i hi => SAt.same (on11 i hi) (same_new fT)
    have hT12 : upd H11 lT (.lst []) lT = some (.lst (([] : List Int).map V.int)) := upd_same
    show gName 4 (V.ref lT) _ (upd H11 lT (.lst [])) _
    generalize upd H11 lT _ = H12 at w12 on12 hT12 ⊢
    have shown : ∀ {H5 : Hp} {tots : List Int} {b : Nat} {tot : Int} {Q2 : VK} {E2 : XK}, b < 2 → tots[b]? = some tot → Sent35 a.c_Stream H5 (f b) (ss b) (gg b) tot → W35 (lT :: ((f 0).own ++ (f 1).own)) le l1 l2 tt f ss gg H5 → (∀ H', Same H5 H' → Q2 (.bl true) H') → spShown35 a.c_Stream [.ref (f b).x, .ref (tt b), .ref (f b).lt, .int tot] H5 Q2 E2 := by
      rintro H5 tots b tot Q2 E2 hb htot ⟨sp, o1, o2, o3⟩ w5 q2
      obtain ⟨z1, z2, z3⟩ := w5.td b hb
      obtain ⟨c1, c2, c3, c4, c5⟩ := fn b hb
      exact ⟨(f b).x, (f b).dx, (f b).lA, (f b).lE, (f b).lS, (f b).as, ss b, (f b).n, gg b, (f b).rows, sp, tt b, (f b).lt, tot, rfl, o1, w5.ht b hb, c3, c4, c2, z1, fun r hr => ⟨(z2 r hr).1, (z2 r hr).2.1, (z2 r hr).2.2.1⟩, z3, o2, o3, q2⟩
    refine ⟨2, rfl, by decide, by decide, ?_⟩
    refine for_range (lo := 0) (n := 2) (fun i σ H5 => (∃ o5 o6, σ = [some (.ref sa), some (.ref le), some (.ref l2), some (.ref l1), some (.ref lT), o5, o6]) ∧ W35 (lT :: ((f 0).own ++ (f 1).own)) le l1 l2 tt f ss gg H5 ∧ ∃ tots : List Int, tots.length = i ∧ H5 lT = some (.lst (tots.map V.int)) ∧ (∀ (j : Nat) tot, tots[j]? = some tot → Sent35 a.c_Stream H5 (f j) (ss j) (gg j) tot) ∧ ∀ j, i ≤ j → j < 2 → (f j).On a.c_Stream H5 0 (spr ((f j).rows.map (·.2)))) ⟨⟨_, _, rfl⟩, w12, [], rfl, hT12, (fun j tot h => by cases h), fun j _ hj => on12 j hj⟩ ?_ ?_
    · rintro i σ H5 hi ⟨⟨o5, o6, rfl⟩, w5, tots, tl5, hT5, sn5, on5⟩
      rw [Int.zero_add]
      have st5 := on5 i (Nat.le_refl _) hi
      obtain ⟨c1, c2, c3, c4, c5⟩ := fn i hi
      refine (zr rfl ⟨.inl ⟨rfl, _, SqL.of hT5⟩, zr rfl (zr rfl ⟨l1, _, _, V.ref (f i).x, rfl, rfl, SqL.of w5.h1, pick2 (g := fun i => (f i).x) hi, (f i).x, (f i).dx, zr rfl ⟨st5.raw.ins, rfl, zr rfl (zr rfl ⟨le, _, _, V.ref (tt i), rfl, rfl, SqL.of w5.hle, pick2 (g := tt) hi, ixt (w5.ht i hi) rfl (zr rfl (zr rfl ⟨le, _, _, V.ref (tt i), rfl, rfl, SqL.of w5.hle, pick2 (g := tt) hi, ixt (w5.ht i hi) rfl ⟨(f i).x, (f i).dx, (f i).lA, (f i).lE, (f i).lS, (f i).as, 0, (f i).n, _, _, ss i, gg i, rfl, st5, c3, c4, c5, fun tot sp' tree H6 k6 st6 t06 nt tk ng cl => ?_⟩⟩))⟩)⟩⟩)⟩)
      have k6' : KeptM (lT :: ((f 0).own ++ (f 1).own)) H5 H6 := k6.sub fun b hb => .tail _ (own_sub hi b (send_own b hb))
      have hT6 : H6 lT = some (.lst (tots.map V.int)) := k6 _ _ (fun h => lTn (own_sub hi _ (send_own _ h))) hT5
      refine ⟨lT, zr2 rfl rfl ⟨hT6, by rw [List.length_map]; omega, ?_⟩⟩
      have k7 : KeptM [lT] H6 (upd H6 lT (.lst (tots.map V.int ++ [V.int tot]))) := KeptM.upd (.head _)
      have hT7 : upd H6 lT (.lst (tots.map V.int ++ [V.int tot])) lT = some (.lst ((tots ++ [tot]).map V.int)) := by rw [upd_same, List.map_append]; rfl
      generalize upd H6 lT _ = H7b at k7 hT7 ⊢
      have w7 := (w5.kept k6').kept (k7.sub fun b hb => by rw [List.mem_singleton.mp hb]; exact .head _)
      have sn7 : ∀ (j : Nat) z, (tots ++ [tot])[j]? = some z → Sent35 a.c_Stream H7b (f j) (ss j) (gg j) z := fun j z hz => by
        by_cases cj : j < tots.length
        · rw [List.getElem?_append_left cj] at hz
          exact ((sn5 j z hz).kept k6 fun b hb h => own_apart dj (by omega) hi (by omega) b hb (send_own b h)).kept k7 (ownT j (by omega))
        · have hj := (List.getElem?_eq_some_iff.mp hz).1
          rw [List.length_append] at hj
          obtain rfl : j = tots.length := by have : j < tots.length + 1 := hj; omega
          rw [List.getElem?_append_right (Nat.le_refl _), Nat.sub_self] at hz
          cases hz
          rw [tl5]
          refine ⟨sp', SAt.kept st6 k7 (ownT i hi), fun tree2 tk2 h => ng (tree_sub tk2 tk.src cl _ h), fun p => ?_⟩
          have := nt p
          rw [net_spr, Int.zero_add, List.length_map] at this
          exact this
      have on7 : ∀ j, i + 1 ≤ j → j < 2 → (f j).On a.c_Stream H7b 0 (spr ((f j).rows.map (·.2))) := fun j h1 h2 => SAt.kept (SAt.kept (on5 j (by omega) h2) k6 fun b hb h => own_apart dj h2 hi (by omega) b hb (send_own b h)) k7 (ownT j h2)
      refine (zr rfl (zr2 rfl rfl (zr rfl ⟨by show -(2 ^ 62) ≤ (i : Int) + 1; omega, by show (i : Int) + 1 < 2 ^ 62; omega, ?_⟩)))
      refine for_range (lo := 0) (n := ((i : Int) + 1).toNat) (fun b σ H8b => (∃ o6, σ = [some (.ref sa), some (.ref le), some (.ref l2), some (.ref l1), some (.ref lT), some (.int (i : Int)), o6]) ∧ Same H7b H8b) ⟨⟨_, rfl⟩, Same.refl _⟩ ?_ ?_
      · rintro b σ H8b hb ⟨⟨o6, rfl⟩, s8⟩
        have hb : b < i + 1 := by omega
        rw [Int.zero_add]
        have w8 := w7.same s8
        obtain ⟨z, hz⟩ : ∃ z, (tots ++ [tot])[b]? = some z := ⟨_, List.getElem?_eq_getElem (by rw [List.length_append]; show b < _ + 1; omega)⟩
        refine (zr rfl (zr rfl ⟨l1, _, _, V.ref (f b).x, rfl, rfl, SqL.of w8.h1, pick2 (g := fun i => (f i).x) (by omega), zr rfl (zr rfl ⟨le, _, _, V.ref (tt b), rfl, rfl, SqL.of w8.hle, pick2 (g := tt) (by omega), zr rfl (zr rfl ⟨l2, _, _, V.ref (f b).lt, rfl, rfl, SqL.of w8.h2, pick2 (g := fun i => (f i).lt) (by omega), zr rfl (zr rfl ⟨lT, _, _, V.int z, rfl, rfl, SqL.of (s8 _ _ hT7), atI_nat (map_at hz), ?_⟩)⟩)⟩)⟩))
        delta tNil
        show spShown35 _ [V.ref (f b).x, V.ref (tt b), V.ref (f b).lt, V.int z] H8b _ _
        refine shown (by omega) hz ((sn7 b z hz).same s8) w8 ?_
        intro H9b s9
        exact (zr rfl (iteB0 rfl ⟨⟨_, rfl⟩, s8.trans s9⟩))
      · rintro σ H8b ⟨⟨o6, rfl⟩, s8⟩
        exact ⟨⟨_, _, rfl⟩, w7.same s8, tots ++ [tot], by rw [List.length_append, tl5]; rfl, s8 _ _ hT7, fun j z hz => (sn7 j z hz).same s8, fun j h1 h2 => SAt.same (on7 j h1 h2) s8⟩
    rintro σ H5 ⟨⟨o5, o6, rfl⟩, w5, tots, tl5, hT5, sn5, _⟩
    obtain ⟨z, hz⟩ : ∃ z, tots[0]? = some z := ⟨_, List.getElem?_eq_getElem (by omega)⟩
    refine (zr rfl ⟨l1, _, _, V.ref (f 0).x, rfl, rfl, SqL.of w5.h1, rfl, zr rfl ⟨le, _, _, V.ref (tt 0), rfl, rfl, SqL.of w5.hle, rfl, zr rfl ⟨l2, _, _, V.ref (f 0).lt, rfl, rfl, SqL.of w5.h2, rfl, zr rfl ⟨lT, _, _, V.int z, rfl, rfl, SqL.of hT5, atI_nat (j := 0) (map_at hz), ?_⟩⟩⟩⟩)
    delta tNil
    show spShown35 _ [V.ref (f 0).x, V.ref (tt 0), V.ref (f 0).lt, V.int z] H5 _ _
    refine shown (by omega) hz (sn5 0 z hz) w5 ?_
    intro H9b _
    exact q _
end
theorem all_mk {l : PySem.W.OpenLaw} {w : World} {K : PySem.W.Frag} {h : Heap} {mg : Str → Option Value} {fa f__law_purse f__law_take f_Stream___init__ f_Stream_tie f_Stream_sent f_Stream_came_to f_Stream_sent_along f_Stream_send f_Stream_near f__law_ties f__law_ends f__law_tied f__law_met f__law_shown f_law c_Stream : Addr} (X : K.In h) (G : h.Ns mainGlobals mg) (hfa : mg "law" = some (.ref fa))
    {d__law_purse d__law_take d_Stream___init__ d_Stream_tie d_Stream_sent d_Stream_came_to d_Stream_sent_along d_Stream_send d_Stream_near d__law_ties d__law_ends d__law_tied d__law_met d__law_shown d_law : FuncData}
    (a__law_purse : PySem.W.nsIn K mainGlobals "_law_purse" = some (some (.ref f__law_purse))) (F__law_purse : Fun K "_law_purse" "_law_purse" s__law_purse f__law_purse d__law_purse)
    (a__law_take : PySem.W.nsIn K mainGlobals "_law_take" = some (some (.ref f__law_take))) (F__law_take : Fun K "_law_take" "_law_take" s__law_take f__law_take d__law_take)
    (a_Stream___init__ : PySem.W.findIn K (.ref c_Stream) "__init__" = some (some (.ref f_Stream___init__))) (j_Stream___init__ : PySem.W.isFn K (.ref f_Stream___init__) = true) (F_Stream___init__ : Fun K "__init__" "Stream.__init__" s_Stream___init__ f_Stream___init__ d_Stream___init__)
    (a_Stream_tie : PySem.W.findIn K (.ref c_Stream) "tie" = some (some (.ref f_Stream_tie))) (j_Stream_tie : PySem.W.isFn K (.ref f_Stream_tie) = true) (F_Stream_tie : Fun K "tie" "Stream.tie" s_Stream_tie f_Stream_tie d_Stream_tie)
    (a_Stream_sent : PySem.W.findIn K (.ref c_Stream) "sent" = some (some (.ref f_Stream_sent))) (j_Stream_sent : PySem.W.isFn K (.ref f_Stream_sent) = true) (F_Stream_sent : Fun K "sent" "Stream.sent" s_Stream_sent f_Stream_sent d_Stream_sent)
    (a_Stream_came_to : PySem.W.findIn K (.ref c_Stream) "came_to" = some (some (.ref f_Stream_came_to))) (j_Stream_came_to : PySem.W.isFn K (.ref f_Stream_came_to) = true) (F_Stream_came_to : Fun K "came_to" "Stream.came_to" s_Stream_came_to f_Stream_came_to d_Stream_came_to)
    (a_Stream_sent_along : PySem.W.findIn K (.ref c_Stream) "sent_along" = some (some (.ref f_Stream_sent_along))) (j_Stream_sent_along : PySem.W.isFn K (.ref f_Stream_sent_along) = true) (F_Stream_sent_along : Fun K "sent_along" "Stream.sent_along" s_Stream_sent_along f_Stream_sent_along d_Stream_sent_along)
    (a_Stream_send : PySem.W.findIn K (.ref c_Stream) "send" = some (some (.ref f_Stream_send))) (j_Stream_send : PySem.W.isFn K (.ref f_Stream_send) = true) (F_Stream_send : Fun K "send" "Stream.send" s_Stream_send f_Stream_send d_Stream_send)
    (a_Stream_near : PySem.W.findIn K (.ref c_Stream) "near" = some (some (.ref f_Stream_near))) (j_Stream_near : PySem.W.isFn K (.ref f_Stream_near) = true) (F_Stream_near : Fun K "near" "Stream.near" s_Stream_near f_Stream_near d_Stream_near)
    (a__law_ties : PySem.W.nsIn K mainGlobals "_law_ties" = some (some (.ref f__law_ties))) (F__law_ties : Fun K "_law_ties" "_law_ties" s__law_ties f__law_ties d__law_ties)
    (a__law_ends : PySem.W.nsIn K mainGlobals "_law_ends" = some (some (.ref f__law_ends))) (F__law_ends : Fun K "_law_ends" "_law_ends" s__law_ends f__law_ends d__law_ends)
    (a__law_tied : PySem.W.nsIn K mainGlobals "_law_tied" = some (some (.ref f__law_tied))) (F__law_tied : Fun K "_law_tied" "_law_tied" s__law_tied f__law_tied d__law_tied)
    (a__law_met : PySem.W.nsIn K mainGlobals "_law_met" = some (some (.ref f__law_met))) (F__law_met : Fun K "_law_met" "_law_met" s__law_met f__law_met d__law_met)
    (a__law_shown : PySem.W.nsIn K mainGlobals "_law_shown" = some (some (.ref f__law_shown))) (F__law_shown : Fun K "_law_shown" "_law_shown" s__law_shown f__law_shown d__law_shown)
    (a_law : PySem.W.nsIn K mainGlobals "law" = some (some (.ref f_law))) (F_law : Fun K "law" "law" s_law f_law d_law)
    (z_all : PySem.W.nsIn K mainGlobals "all" = some none)
    (z_bool : PySem.W.nsIn K mainGlobals "bool" = some none)
    (z_isinstance : PySem.W.nsIn K mainGlobals "isinstance" = some none)
    (z_len : PySem.W.nsIn K mainGlobals "len" = some none)
    (z_list : PySem.W.nsIn K mainGlobals "list" = some none)
    (z_max : PySem.W.nsIn K mainGlobals "max" = some none)
    (z_min : PySem.W.nsIn K mainGlobals "min" = some none)
    (z_range : PySem.W.nsIn K mainGlobals "range" = some none)
    (e_Stream : PySem.W.nsIn K mainGlobals "Stream" = some (some (.ref c_Stream)))
    (pg_Stream : PySem.W.plainGet K c_Stream Str.empty = true) (hd_Stream : PySem.W.hasDictIn K c_Stream = true) (po_Stream : PySem.W.plainOver K c_Stream = true) (sa_Stream : PySem.W.findIn K (.ref c_Stream) "__setattr__" = some (some (.builtin "object.__setattr__")))
    (mk_Stream : PySem.W.makesIn K c_Stream = true) (kc_Stream : PySem.W.keepIn K (.ref c_Stream) = true)
    (nf_Stream_source : PySem.W.findIn K (.ref c_Stream) "source" = some none)
    (nf_Stream_arcs : PySem.W.findIn K (.ref c_Stream) "arcs" = some none)
    (nf_Stream_ends : PySem.W.findIn K (.ref c_Stream) "ends" = some none)
    (nf_Stream_spare : PySem.W.findIn K (.ref c_Stream) "spare" = some none) :
    ∃ fd : FuncData, (∀ (s : Shared) (v : Value), BindsTo s fd ⟨[v], []⟩ [("_law_script", v)]) ∧ ∀ base : Heap, K.In base → base.Ns mainGlobals mg → FnOk l.prog w K mg base CX0 4 fa fd ["_law_script"] (spLaw K) := by
  have e := hfa.symm.trans (PySem.W.mg_of X G a_law)
  cases e
  have b__law_purse := F__law_purse.binds (ps := ["_law_script", "_law_k"]) fun _ _ _ _ _ _ us hl => us2 hl fun _ _ => rfl
  have b__law_take := F__law_take.binds (ps := ["_law_purse_here", "_law_many"]) fun _ _ _ _ _ _ us hl => us2 hl fun _ _ => rfl
  have b_Stream___init__ := F_Stream___init__.binds (ps := ["self", "many"]) fun _ _ _ _ _ _ us hl => us2 hl fun _ _ => rfl
  have b_Stream_tie := F_Stream_tie.binds (ps := ["self", "here", "there", "most"]) fun _ _ _ _ _ _ us hl => us4 hl fun _ _ _ _ => rfl
  have b_Stream_sent := F_Stream_sent.binds (ps := ["self", "tie"]) fun _ _ _ _ _ _ us hl => us2 hl fun _ _ => rfl
  have b_Stream_came_to := F_Stream_came_to.binds (ps := ["self", "goal"]) fun _ _ _ _ _ _ us hl => us2 hl fun _ _ => rfl
  have b_Stream_sent_along := F_Stream_sent_along.binds (ps := ["self", "came", "goal"]) fun _ _ _ _ _ _ us hl => us3 hl fun _ _ _ => rfl
  have b_Stream_send := F_Stream_send.binds (ps := ["self", "source", "goal"]) fun _ _ _ _ _ _ us hl => us3 hl fun _ _ _ => rfl
  have b_Stream_near := F_Stream_near.binds (ps := ["self"]) fun _ _ _ _ _ _ us hl => us1 hl fun _ => rfl
  have b__law_ties := F__law_ties.binds (ps := ["_law_script", "_law_many", "_law_first"]) fun _ _ _ _ _ _ us hl => us3 hl fun _ _ _ => rfl
  have b__law_ends := F__law_ends.binds (ps := ["_law_script", "_law_k"]) fun _ _ _ _ _ _ us hl => us2 hl fun _ _ => rfl
  have b__law_tied := F__law_tied.binds (ps := ["_law_streams", "_law_ties_of"]) fun _ _ _ _ _ _ us hl => us2 hl fun _ _ => rfl
  have b__law_met := F__law_met.binds (ps := ["_law_source", "_law_many", "_law_ties_here", "_law_sent"]) fun _ _ _ _ _ _ us hl => us4 hl fun _ _ _ _ => rfl
  have b__law_shown := F__law_shown.binds (ps := ["_law_stream", "_law_ends_here", "_law_ties_here", "_law_total"]) fun _ _ _ _ _ _ us hl => us4 hl fun _ _ _ _ => rfl
  have b_law := F_law.binds (ps := ["_law_script"]) fun _ _ _ _ _ _ us hl => us1 hl fun _ => rfl
  have T : Tx K mg ⟨f__law_purse, d__law_purse, f__law_take, d__law_take, f_Stream___init__, d_Stream___init__, f_Stream_tie, d_Stream_tie, f_Stream_sent, d_Stream_sent, f_Stream_came_to, d_Stream_came_to, f_Stream_sent_along, d_Stream_sent_along, f_Stream_send, d_Stream_send, f_Stream_near, d_Stream_near, f__law_ties, d__law_ties, f__law_ends, d__law_ends, f__law_tied, d__law_tied, f__law_met, d__law_met, f__law_shown, d__law_shown, fa, d_law, c_Stream⟩ := ⟨F__law_purse, b__law_purse, PySem.W.mg_of X G a__law_purse, F__law_purse.kp, F__law_take, b__law_take, PySem.W.mg_of X G a__law_take, F__law_take.kp, F_Stream___init__, b_Stream___init__, ⟨a_Stream___init__, j_Stream___init__, F_Stream___init__.kp⟩, F_Stream___init__.kp, F_Stream_tie, b_Stream_tie, ⟨a_Stream_tie, j_Stream_tie, F_Stream_tie.kp⟩, F_Stream_tie.kp, F_Stream_sent, b_Stream_sent, ⟨a_Stream_sent, j_Stream_sent, F_Stream_sent.kp⟩, F_Stream_sent.kp, F_Stream_came_to, b_Stream_came_to, ⟨a_Stream_came_to, j_Stream_came_to, F_Stream_came_to.kp⟩, F_Stream_came_to.kp, F_Stream_sent_along, b_Stream_sent_along, ⟨a_Stream_sent_along, j_Stream_sent_along, F_Stream_sent_along.kp⟩, F_Stream_sent_along.kp, F_Stream_send, b_Stream_send, ⟨a_Stream_send, j_Stream_send, F_Stream_send.kp⟩, F_Stream_send.kp, F_Stream_near, b_Stream_near, ⟨a_Stream_near, j_Stream_near, F_Stream_near.kp⟩, F_Stream_near.kp, F__law_ties, b__law_ties, PySem.W.mg_of X G a__law_ties, F__law_ties.kp, F__law_ends, b__law_ends, PySem.W.mg_of X G a__law_ends, F__law_ends.kp, F__law_tied, b__law_tied, PySem.W.mg_of X G a__law_tied, F__law_tied.kp, F__law_met, b__law_met, PySem.W.mg_of X G a__law_met, F__law_met.kp, F__law_shown, b__law_shown, PySem.W.mg_of X G a__law_shown, F__law_shown.kp, F_law, b_law, PySem.W.mg_of X G a_law, F_law.kp, PySem.W.mg_none_of X G z_all, PySem.W.mg_none_of X G z_bool, PySem.W.mg_none_of X G z_isinstance, PySem.W.mg_none_of X G z_len, PySem.W.mg_none_of X G z_list, PySem.W.mg_none_of X G z_max, PySem.W.mg_none_of X G z_min, PySem.W.mg_none_of X G z_range, PySem.W.mg_of X G e_Stream, ⟨pg_Stream, hd_Stream, po_Stream, sa_Stream⟩, ⟨mk_Stream, a_Stream___init__, j_Stream___init__, kc_Stream⟩, nf_Stream_source, nf_Stream_arcs, nf_Stream_ends, nf_Stream_spare⟩
  obtain ⟨_, _, _, _, _, _, _, _, _, rfl, _, _⟩ := F_law.ex
  exact ⟨_, fun s v => .of_eq rfl, fun base _ _ => ok_law T⟩
theorem walk {l : PySem.W.OpenLaw} {q : Program} {loose : List Str} {XP : (Str → Option Value) → Heap → Prop} {YP : World → Heap → Prop} {d : DefRec} {K : Params → PySem.W.Frag} (hn : l.most = some 63) (hdf : d.params.defaults = [])
    (hY : ∀ (w : World) (h : Heap), YP w h → (K w.params).In h)
    (F : ∀ (w : World) (mg : Str → Option Value) (fa : Addr) (h : Heap), (K w.params).In h → h.Ns mainGlobals mg → mg d.name = some (.ref fa) →
      ∃ fd : FuncData, (∀ (s : Shared) (u : Value), BindsTo s fd ⟨[u], []⟩ [("_law_script", u)]) ∧ ∀ base : Heap, (K w.params).In base → base.Ns mainGlobals mg → FnOk l.prog w (K w.params) mg base CX0 4 fa fd ["_law_script"] (spLaw (K w.params))) :
    PySem.W.WalkO q loose XP YP l.row.toRowW d [] (fun f vs => PySem.call f vs) :=
  L2.walk_of (n := 63) (k := 4) (x := "_law_script") (CX := fun _ => CX0) (sp := fun w => spLaw (K w.params)) hn (by decide) hdf ⟨rfl, by decide, by decide⟩ hY F (fun _ _ a ns hl _ hS => ⟨a, ns, rfl, hS, hl, fun _ => rfl⟩) fun _ _ _ _ _ z => z
end Sm
open PySem PySem.W PyProof.Rows
set_option maxRecDepth 100000 in
set_option maxHeartbeats 0 in
theorem PySem.Challenge.cw_satchelmeet_k35_whole_no_more_can_be_sen_holds : PySem.Challenge.rw_satchelmeet_k35_whole_no_more_can_be_sen.Holds := by
  w_on; o_law; k_head; (case hw => w_witness2)
  k_fill
  refine Sm.walk (l := PySem.Challenge.rw_satchelmeet_k35_whole_no_more_can_be_sen) rfl rfl (fun w h Y => PySem.W.kIn_of Y) ?F
  case F =>
    intro w mg fa h KX G hmg
    refine' Sm.all_mk KX G hmg ?a__law_purse ?F__law_purse ?a__law_take ?F__law_take ?a_Stream___init__ ?j_Stream___init__ ?F_Stream___init__ ?a_Stream_tie ?j_Stream_tie ?F_Stream_tie ?a_Stream_sent ?j_Stream_sent ?F_Stream_sent ?a_Stream_came_to ?j_Stream_came_to ?F_Stream_came_to ?a_Stream_sent_along ?j_Stream_sent_along ?F_Stream_sent_along ?a_Stream_send ?j_Stream_send ?F_Stream_send ?a_Stream_near ?j_Stream_near ?F_Stream_near ?a__law_ties ?F__law_ties ?a__law_ends ?F__law_ends ?a__law_tied ?F__law_tied ?a__law_met ?F__law_met ?a__law_shown ?F__law_shown ?a_law ?F_law ?z_all ?z_bool ?z_isinstance ?z_len ?z_list ?z_max ?z_min ?z_range ?e_Stream ?pg_Stream ?hd_Stream ?po_Stream ?sa_Stream ?mk_Stream ?kc_Stream ?nf_Stream_source ?nf_Stream_arcs ?nf_Stream_ends ?nf_Stream_spare
    (case e_Stream => k_is)
    (case a__law_purse => k_is)
    (case F__law_purse => refine' L2.fun_mk ?x1 ?y1 ?z1; (case x1 => k_is); (case y1 => k_is); (case z1 => k_is))
    (case a__law_take => k_is)
    (case F__law_take => refine' L2.fun_mk ?x3 ?y3 ?z3; (case x3 => k_is); (case y3 => k_is); (case z3 => k_is))
    (case a_Stream___init__ => k_is)
    (case j_Stream___init__ => k_is)
    (case F_Stream___init__ => refine' L2.fun_mk ?x6 ?y6 ?z6; (case x6 => k_is); (case y6 => k_is); (case z6 => k_is))
    (case a_Stream_tie => k_is)
    (case j_Stream_tie => k_is)
    (case F_Stream_tie => refine' L2.fun_mk ?x9 ?y9 ?z9; (case x9 => k_is); (case y9 => k_is); (case z9 => k_is))
    (case a_Stream_sent => k_is)
    (case j_Stream_sent => k_is)
    (case F_Stream_sent => refine' L2.fun_mk ?x12 ?y12 ?z12; (case x12 => k_is); (case y12 => k_is); (case z12 => k_is))
    (case a_Stream_came_to => k_is)
    (case j_Stream_came_to => k_is)
    (case F_Stream_came_to => refine' L2.fun_mk ?x15 ?y15 ?z15; (case x15 => k_is); (case y15 => k_is); (case z15 => k_is))
    (case a_Stream_sent_along => k_is)
    (case j_Stream_sent_along => k_is)
    (case F_Stream_sent_along => refine' L2.fun_mk ?x18 ?y18 ?z18; (case x18 => k_is); (case y18 => k_is); (case z18 => k_is))
    (case a_Stream_send => k_is)
    (case j_Stream_send => k_is)
    (case F_Stream_send => refine' L2.fun_mk ?x21 ?y21 ?z21; (case x21 => k_is); (case y21 => k_is); (case z21 => k_is))
    (case a_Stream_near => k_is)
    (case j_Stream_near => k_is)
    (case F_Stream_near => refine' L2.fun_mk ?x24 ?y24 ?z24; (case x24 => k_is); (case y24 => k_is); (case z24 => k_is))
    (case a__law_ties => k_is)
    (case F__law_ties => refine' L2.fun_mk ?x26 ?y26 ?z26; (case x26 => k_is); (case y26 => k_is); (case z26 => k_is))
    (case a__law_ends => k_is)
    (case F__law_ends => refine' L2.fun_mk ?x28 ?y28 ?z28; (case x28 => k_is); (case y28 => k_is); (case z28 => k_is))
    (case a__law_tied => k_is)
    (case F__law_tied => refine' L2.fun_mk ?x30 ?y30 ?z30; (case x30 => k_is); (case y30 => k_is); (case z30 => k_is))
    (case a__law_met => k_is)
    (case F__law_met => refine' L2.fun_mk ?x32 ?y32 ?z32; (case x32 => k_is); (case y32 => k_is); (case z32 => k_is))
    (case a__law_shown => k_is)
    (case F__law_shown => refine' L2.fun_mk ?x34 ?y34 ?z34; (case x34 => k_is); (case y34 => k_is); (case z34 => k_is))
    (case a_law => k_is)
    (case F_law => refine' L2.fun_mk ?x36 ?y36 ?z36; (case x36 => k_is); (case y36 => k_is); (case z36 => k_is))
    (case z_all => k_is)
    (case z_bool => k_is)
    (case z_isinstance => k_is)
    (case z_len => k_is)
    (case z_list => k_is)
    (case z_max => k_is)
    (case z_min => k_is)
    (case z_range => k_is)
    (case pg_Stream => k_is)
    (case hd_Stream => k_is)
    (case po_Stream => k_is)
    (case sa_Stream => k_is)
    (case mk_Stream => k_is)
    (case kc_Stream => k_is)
    (case nf_Stream_source => k_is)
    (case nf_Stream_arcs => k_is)
    (case nf_Stream_ends => k_is)
    (case nf_Stream_spare => k_is)

