import PyProof.Rows.All
import Wide.All
import OpenK.AllK
import Wide.FinOn
import Lean
import PyProof.EqAt
import PyProof.EqKinds
import PyProof.TupleCall
import PyProof.StrWalks
import PyProof.StrBlockI
import PyProof.FString5
import PyProof.SetRoads
import PyProof.SetNew
import PyProof.TupleKey
import PyProof.InstEq
import PySem.SetOps
import KE.KTryMore
import PyProof.NsDelKeeps
import KE.KIsAll
import KE.KItemsList
import KE.KSortTup
import KE.KDictSum
import KE.KLam
import KE.KNestM
import KE.KSortTup
import PySem.Challenge.RW_satchelmeet_k86_rows_shown
set_option Elab.async false
set_option linter.all false
set_option maxRecDepth 100000
namespace L2
open PySem PySem.Spec PyProof.Rows
abbrev Key := Sum Int Str
def keyIs : Key → Value → Bool
  | .inl k, v => Value.isInt k v
  | .inr x, v => Value.isStrOf x v
def keyH (w : World) : Key → Int
  | .inl k => hashInt k
  | .inr x => hashStr w x
theorem keyIs_shape : ∀ {k : Key} {v : Value}, keyIs k v = true → (∃ i t, k = Sum.inl i ∧ v = Value.int i t) ∨ (∃ x t, k = Sum.inr x ∧ v = Value.str x t)
  | .inl i, v, h => by
    obtain ⟨t, e⟩ := Value.isInt_shape (k := i) (v := v) h
    exact .inl ⟨i, t, rfl, e⟩
  | .inr x, v, h => by
    obtain ⟨t, e⟩ := Value.isStrOf_shape (x := x) (v := v) h
    exact .inr ⟨x, t, rfl, e⟩
theorem key_ll (a b : Int) : decide ((Sum.inl a : Key) = Sum.inl b) = (a == b) := by
  by_cases e : a = b
  · subst e; simp
  · have h : ¬ (Sum.inl a : Key) = Sum.inl b := fun q => e (Sum.inl.inj q)
    rw [decide_eq_false h]
    exact (beq_eq_false_iff_ne.mpr e).symm
theorem key_rr (a b : Str) : decide ((Sum.inr a : Key) = Sum.inr b) = decide (a = b) := by
  by_cases e : a = b
  · subst e; simp
  · have h : ¬ (Sum.inr a : Key) = Sum.inr b := fun q => e (Sum.inr.inj q)
    rw [decide_eq_false h, decide_eq_false e]
theorem key_lr (a : Int) (b : Str) : decide ((Sum.inl a : Key) = Sum.inr b) = false := decide_eq_false (fun q => nomatch q)
theorem key_rl (a : Str) (b : Int) : decide ((Sum.inr a : Key) = Sum.inl b) = false := decide_eq_false (fun q => nomatch q)
def mixKind (prog : Program) (w : World) : PySem.KeyKind prog w Key where
  is := keyIs
  hash := keyH w
  inj := fun v a b ha hb => by
    rcases keyIs_shape ha with ⟨i, t, rfl, rfl⟩ | ⟨x, t, rfl, rfl⟩
    · rcases keyIs_shape hb with ⟨j, u, rfl, e⟩ | ⟨y, u, rfl, e⟩
      · injection e with e1 _; rw [e1]
      · exact nomatch e
    · rcases keyIs_shape hb with ⟨j, u, rfl, e⟩ | ⟨y, u, rfl, e⟩
      · exact nomatch e
      · injection e with e1 _; rw [e1]
  byValue := fun k v h => by
    rcases keyIs_shape h with ⟨i, t, rfl, rfl⟩ | ⟨x, t, rfl, rfl⟩ <;> rfl
  pyHash := fun hv h => by
    rcases keyIs_shape hv with ⟨i, t, rfl, rfl⟩ | ⟨x, t, rfl, rfl⟩
    · exact wpAny_pyHash_int h
    · exact wpAny_pyHash_str h
  eqBool := fun hu hv h => by
    rcases keyIs_shape hu with ⟨i, t, rfl, rfl⟩ | ⟨x, t, rfl, rfl⟩
    · rcases keyIs_shape hv with ⟨j, u, rfl, rfl⟩ | ⟨y, u, rfl, rfl⟩
      · rw [key_ll] at h; exact wpAny_eqBool_int h
      · rw [key_lr] at h; exact SeqAt.EqAt.int_str i t y u _ _ _ _ h
    · rcases keyIs_shape hv with ⟨j, u, rfl, rfl⟩ | ⟨y, u, rfl, rfl⟩
      · rw [key_rl] at h; exact SeqAt.EqAt.str_int x t j u _ _ _ _ h
      · rw [key_rr] at h; exact wpAny_eqBool_str h
  «strs» := fun k x t v h => by
    rcases keyIs_shape h with ⟨i, u, rfl, e⟩ | ⟨y, u, rfl, e⟩
    · exact nomatch e
    · injection e with e1 _
      subst e1
      cases v <;> rfl
end L2
namespace L2
open PySem PySem.Spec PyProof.Rows
inductive V where
  | non | bl (b : Bool) | int (i : Int) | str (x : Str) | byt (b : Array UInt8) | flt (b : UInt64) | ref (a : Addr) | ty (n : String)
  deriving DecidableEq
def RelV : V → Value → Prop
  | .non, u => u = Value.none
  | .bl b, u => u = Value.bool b
  | .int i, u => ∃ t, u = Value.int i t
  | .str x, u => ∃ t, u = Value.str x t
  | .byt b, u => ∃ t, u = Value.bytes b t
  | .flt b, u => ∃ t, u = Value.float b t
  | .ref a, u => u = Value.ref a
  | .ty n, u => u = Value.type n
abbrev Vals : List V → List Value → Prop := Paired RelV
theorem Vals.length {xs : List V} {us : List Value} (r : Vals xs us) : xs.length = us.length := Paired.length r
theorem Vals.get : ∀ {xs : List V} {us : List Value} {i : Nat} {x : V}, Vals xs us → xs[i]? = some x → ∃ u, us[i]? = some u ∧ RelV x u
  | _, _, _, _, .nil, e => by simp at e
  | _, _, 0, _, .cons r _, e => by simp at e; subst e; exact ⟨_, rfl, r⟩
  | _, _, i + 1, x, .cons _ t, e => by
    obtain ⟨u, h1, h2⟩ := Vals.get (i := i) (x := x) t (by simpa using e)
    exact ⟨u, by simpa using h1, h2⟩
theorem Vals.set {x : V} {u : Value} (r : RelV x u) : ∀ {xs : List V} {us : List Value} (i : Nat), Vals xs us → Vals (xs.set i x) (us.set i u)
  | _, _, _, .nil => .nil
  | _, _, 0, .cons _ t => .cons r t
  | _, _, i + 1, .cons q t => .cons q (Vals.set r i t)
theorem Vals.append : ∀ {xs ys : List V} {us ws : List Value}, Vals xs us → Vals ys ws → Vals (xs ++ ys) (us ++ ws)
  | _, _, _, _, .nil, s => s
  | _, _, _, _, .cons r t, s => .cons r (Vals.append t s)
def RelO : Option V → Option Value → Prop
  | some v, some u => RelV v u
  | none, none => True
  | _, _ => False
def KV {κ : Type} : List (κ × V) → List (κ × Value) → Prop := Paired fun (p : κ × V) (q : κ × Value) => p.1 = q.1 ∧ RelV p.2 q.2
def kV : Key → V
  | .inl i => .int i
  | .inr x => .str x
inductive HO where
    | lst (xs : List V)
    | tup (xs : List V)
    | dK (kvs : List (Key × V)) | dT (kvs : List (List Key × V))
    | set (S : Int → Bool) (n : Nat)
    | ins (C dx : Addr) (fs : List (Str × V))
    | own (x : Addr)
    | xd (fs : List (Str × V))
    | met (f x : Addr)
    | rng (lo hi : Int)
    | frz (o : Obj) (u : HO)
    | tbl (ps : Array Value)
    | ext (φ : Heap → Prop)
abbrev Hp := Addr → Option HO
def upd (H : Hp) (a : Addr) (o : HO) : Hp := fun b => if b = a then some o else H b
theorem upd_same {H : Hp} {a : Addr} {o : HO} : upd H a o a = some o := by unfold upd; rw [if_pos rfl]
theorem upd_ne {H : Hp} {a b : Addr} {o : HO} (h : b ≠ a) : upd H a o b = H b := by unfold upd; rw [if_neg h]
theorem ne_of {H : Hp} {a b : Addr} {o u : HO} (h : H a = some o) (h' : H b = some u) (d : o ≠ u) : a ≠ b := by
  intro e; subst e; rw [h] at h'; exact d (Option.some.inj h')
theorem ne_of_none {H : Hp} {a b : Addr} {o : HO} (h : H a = some o) (h' : H b = none) : a ≠ b := by
  intro e; subst e; rw [h] at h'; cases h'
section
variable (P : Program) (w : World)
def ObjOk (H : Hp) (h : Heap) (a : Addr) : HO → Prop
  | .lst xs => xs.length ≤ sizeLine ∧ ∃ (its : List Value) (n : Nat), Vals xs its ∧ h.get? a = some { cls := .type "list", data := .seq its.toArray n }
  | .tup xs => xs.length ≤ sizeLine ∧ ∃ its : List Value, Vals xs its ∧ IsTup h a its.toArray
  | .dK kvs => kvs.length ≤ sizeLine ∧ (a == sysModules) = false ∧ ∃ vs, KV kvs vs ∧ h.DictOf (mixKind P w) a vs
  | .dT kvs => kvs.length ≤ sizeLine ∧ (a == sysModules) = false ∧ ∃ xs : List (List Key × Addr × Value),
      Paired (fun (p : List Key × V) (q : List Key × Addr × Value) => p.1 = q.1 ∧ H q.2.1 = some (.tup (p.1.map kV)) ∧ RelV p.2 q.2.2) kvs xs ∧
      ∃ o es ep, h.get? a = some o ∧ o.ExactDict ∧ o.data = .dict es ep ∧ es.toList = xs.map (entryOfKey (tupleKind (mixKind P w))) ∧ (xs.map (·.1)).Nodup
  | .set S n => h.SetOf (intKind P w) a S n
  | .ins C dx fs => H dx = some (.own a) ∧ fs.length ≤ 1000 ∧ dx ≠ a ∧ h.get? a = some (PySem.W.instObj C dx) ∧
      ∃ mA, h.Ns1 dx mA ∧ (∀ f, RelO (fs.lookup f) (mA f)) ∧ PySem.Within mA (fs.map (·.1))
  | .own _ => ∃ o, h.get? a = some o
  | .xd fs => ∃ mA, h.Ns1 a mA ∧ ∀ f, RelO (fs.lookup f) (mA f)
  | .rng lo hi => ∃ t u v, h.get? a = some { cls := .type "range", data := .fields #[.int lo t, .int hi u, .int 1 v] }
  | .frz o u => h.get? a = some o ∧ ObjOk H h a u
  | .tbl ps => h.get? a = some { cls := .none, data := .fields ps }
  | .met f x => h.get? a = some (PySem.W.methodObj (.ref f) (.ref x))
  | .ext φ => φ h ∧ (∃ o, h.get? a = some o) ∧ ∀ h1 h2 : Heap, φ h1 → (∀ o, h1.get? a = some o → h2.get? a = some o) → φ h2
def HOk (H : Hp) (h : Heap) : Prop := ∀ a o, H a = some o → ObjOk P w H h a o
end
section
variable {P : Program} {w : World} {H H' : Hp} {h h' : Heap} {a : Addr} {o : HO}
theorem ObjOk.lt (x : ObjOk P w H h a o) : a < h.objs.size := by
  cases o with
  | lst xs => obtain ⟨_, _, _, _, e⟩ := x; exact Heap.lt_size e
  | tup xs => obtain ⟨_, _, _, p⟩ := x; exact p.lt
  | dK kvs => obtain ⟨_, _, _, _, o, _, _, e, _⟩ := x; exact Heap.lt_size e
  | dT kvs => obtain ⟨_, _, _, _, o, _, _, e, _⟩ := x; exact Heap.lt_size e
  | set S n => obtain ⟨o, _, _, _, e, _⟩ := x; exact Heap.lt_size e
  | ins C dx fs => obtain ⟨_, _, _, e, _⟩ := x; exact Heap.lt_size e
  | own y => obtain ⟨_, e⟩ := x; exact Heap.lt_size e
  | xd fs => obtain ⟨_, ⟨_, _, _, e, _⟩, _⟩ := x; exact Heap.lt_size e
  | rng lo hi => obtain ⟨_, _, _, e⟩ := x; exact Heap.lt_size e
  | frz ob u => obtain ⟨e, _⟩ := x; exact Heap.lt_size e
  | tbl ps => exact Heap.lt_size (show h.get? a = some _ from x)
  | met f y => exact Heap.lt_size (show h.get? a = some _ from x)
  | ext φ => obtain ⟨_, ⟨_, e⟩, _⟩ := x; exact Heap.lt_size e
theorem Paired.mapP {α β : Type} {F G : α → β → Prop} : ∀ {l₁ : List α} {l₂ : List β}, Paired F l₁ l₂ → (∀ a b, F a b → G a b) → Paired G l₁ l₂
  | _, _, .nil, _ => .nil
  | _, _, .cons r t, f => .cons (f _ _ r) (Paired.mapP t f)
theorem ObjOk.stay (x : ObjOk P w H h a o) (k : ∀ b u, (b = a ∨ H b = some (.own a)) → h.get? b = some u → h'.get? b = some u)
    (ho : ∀ b, H b = some (.own a) → H' b = some (.own a)) (ht : ∀ b xs, H b = some (.tup xs) → H' b = some (.tup xs)) : ObjOk P w H' h' a o := by
  induction o with
  | lst xs => obtain ⟨z, its, n, r, e⟩ := x; exact ⟨z, its, n, r, k _ _ (.inl rfl) e⟩
  | tup xs => obtain ⟨z, its, r, ob, e, c⟩ := x; exact ⟨z, its, r, ob, k _ _ (.inl rfl) e, c⟩
  | dK kvs => obtain ⟨z, y, vs, r, ob, es, ep, e, c⟩ := x; exact ⟨z, y, vs, r, ob, es, ep, k _ _ (.inl rfl) e, c⟩
  | dT kvs =>
    obtain ⟨z, y, xs, r, ob, es, ep, e, c⟩ := x
    exact ⟨z, y, xs, Paired.mapP r fun p q z => ⟨z.1, ht _ _ z.2.1, z.2.2⟩, ob, es, ep, k _ _ (.inl rfl) e, c⟩
  | set S n => obtain ⟨ob, es, ep, t, e, c⟩ := x; exact ⟨ob, es, ep, t, k _ _ (.inl rfl) e, c⟩
  | ins C dx fs =>
    obtain ⟨d, z, ne, e, mA, ⟨od, es, ep, e2, c⟩, r⟩ := x
    exact ⟨ho _ d, z, ne, k _ _ (.inl rfl) e, mA, ⟨od, es, ep, k _ _ (.inr d) e2, c⟩, r⟩
  | own y => obtain ⟨ob, e⟩ := x; exact ⟨ob, k _ _ (.inl rfl) e⟩
  | xd fs => obtain ⟨mA, ⟨od, es, ep, e, c⟩, r⟩ := x; exact ⟨mA, ⟨od, es, ep, k _ _ (.inl rfl) e, c⟩, r⟩
  | rng lo hi => obtain ⟨t, u, v, e⟩ := x; exact ⟨t, u, v, k _ _ (.inl rfl) e⟩
  | frz ob u ih => obtain ⟨e, q⟩ := x; exact ⟨k _ _ (.inl rfl) e, ih q⟩
  | tbl ps =>
    have e : h.get? a = some { cls := .none, data := .fields ps } := x
    show h'.get? a = some { cls := .none, data := .fields ps }
    exact k a _ (.inl rfl) e
  | met f y =>
    have e : h.get? a = some (PySem.W.methodObj (.ref f) (.ref y)) := x
    show h'.get? a = some (PySem.W.methodObj (.ref f) (.ref y))
    exact k a _ (.inl rfl) e
  | ext φ => obtain ⟨p, ⟨o, e⟩, st⟩ := x; exact ⟨st _ _ p fun o q => k _ _ (.inl rfl) q, ⟨o, k _ _ (.inl rfl) e⟩, st⟩
theorem HOk.lt (x : HOk P w H h) (e : H a = some o) : a < h.objs.size := (x a o e).lt
theorem HOk.fresh (x : HOk P w H h) (e : h.objs.size ≤ a) : H a = none := by
  cases q : H a with
  | none => rfl
  | some u => exact absurd (Nat.lt_of_lt_of_le (x.lt q) e) (Nat.lt_irrefl _)
theorem HOk.kept (x : HOk P w H h) (k : ∀ b u, h.get? b = some u → h'.get? b = some u) : HOk P w H h' := fun a o e =>
  (x a o e).stay (fun b u _ q => k b u q) (fun _ q => q) fun _ _ q => q
theorem HOk.laid (x : HOk P w H h) (k : ∀ b u, h.get? b = some u → h'.get? b = some u) (hp : h.objs.size ≤ a) (new : ObjOk P w (upd H a o) h' a o) : HOk P w (upd H a o) h' := fun b u e => by
  have hn := x.fresh hp
  by_cases hb : b = a
  · subst hb; rw [upd_same] at e; cases e; exact new
  · rw [upd_ne hb] at e
    exact (x b u e).stay (fun c v _ q => k c v q) (fun c q => by rw [upd_ne (ne_of_none q hn)]; exact q) fun c xs q => by rw [upd_ne (ne_of_none q hn)]; exact q
end
def Rd (H : Hp) (a : Addr) (u : HO) : Prop := H a = some u ∨ ∃ o, H a = some (.frz o u)
theorem Rd.ok {P : Program} {w : World} {H : Hp} {h : Heap} {a : Addr} {u : HO} (r : Rd H a u) (x : HOk P w H h) : ObjOk P w H h a u := by
  rcases r with r | ⟨o, r⟩
  · exact x a u r
  · obtain ⟨_, q⟩ := x a _ r
    exact q
def Mut : Option HO → Prop
  | some (.lst _) => True
  | some (.dK _) => True
  | some (.dT _) => True
  | some (.set _ _) => True
  | some (.ins _ _ _) => True
  | some (.ext _) => True
  | _ => False
section
variable {P : Program} {w : World} {H : Hp} {h h' : Heap} {x e : Addr} {o' : HO}
theorem HOk.write (ok : HOk P w H h) (mu : Mut (H x)) (he : e = x ∨ H e = some (.own x)) (k : ∀ b u, b ≠ e → h.get? b = some u → h'.get? b = some u) (heo : ∃ u, h'.get? e = some u)
    (new : ObjOk P w (upd H x o') h' x o') : HOk P w (upd H x o') h' := fun b u q => by
  have nown : ∀ c y, H c = some (.own y) → c ≠ x := fun c y r z => by subst z; rw [r] at mu; exact mu
  have ntup : ∀ c xs, H c = some (.tup xs) → c ≠ x := fun c xs r z => by subst z; rw [r] at mu; exact mu
  by_cases hb : b = x
  · subst hb; rw [upd_same] at q; cases q; exact new
  · rw [upd_ne hb] at q
    by_cases hbe : b = e
    · have q' : H b = some (.own x) := by
        rcases he with z | z
        · exact absurd (hbe.trans z) hb
        · rw [hbe]; exact z
      rw [q] at q'; cases q'
      obtain ⟨v, hv⟩ := heo
      exact ⟨v, by rw [hbe]; exact hv⟩
    · refine (ok b u q).stay (fun c v hc r => k c v ?_ r) (fun c r => by rw [upd_ne (nown c b r)]; exact r) fun c xs r => by rw [upd_ne (ntup c xs r)]; exact r
      rcases hc with rfl | hc
      · exact hbe
      · rintro rfl
        rcases he with z | z
        · exact nown c b hc z
        · rw [hc] at z; cases z; exact hb rfl
end
structure Un (fs ex : List Addr) (H H' : Hp) (h h' : Heap) : Prop where
  keep : ∀ b o, h.get? b = some o → H b = none → b ∉ fs → b ∉ ex → h'.get? b = some o
  slot : ∀ b o, h.get? b = some o → H b = none → b ∈ fs → b ∉ ex → ∃ sl, h'.get? b = some { o with slots := sl }
  free : ∀ b o, h.get? b = some o → H b = none → b ∉ ex → H' b = none
  there : ∀ b o, h.get? b = some o → b ∉ ex → ∃ o', h'.get? b = some o'
  tups : ∀ b xs, H b = some (.tup xs) → H' b = some (.tup xs)
  frzs : ∀ b o u, H b = some (.frz o u) → H' b = some (.frz o u)
  tbls : ∀ b ps, H b = some (.tbl ps) → ∃ more, H' b = some (.tbl (ps ++ more))
section
variable {fs fs' ex ex' : List Addr} {H H1 H2 : Hp} {h h1 h2 h' : Heap} {a x e : Addr} {o : HO}
theorem Un.any (u : Un fs ex H H1 h h1) {b : Addr} {ob : Obj} (q : h.get? b = some ob) (n : H b = none) (hx : b ∉ ex) : ∃ sl, h1.get? b = some { ob with slots := sl } := by
  by_cases hb : b ∈ fs
  · exact u.slot b ob q n hb hx
  · exact ⟨ob.slots, u.keep b ob q n hb hx⟩
theorem Un.kept (k : ∀ b u, h.get? b = some u → h'.get? b = some u) : Un fs ex H H h h' :=
  ⟨fun b ob q _ _ _ => k b ob q, fun b ob q _ _ _ => ⟨ob.slots, k b ob q⟩, fun _ _ _ n _ => n, fun b ob q _ => ⟨ob, k b ob q⟩, fun _ _ q => q, fun _ _ _ q => q, fun _ ps q => ⟨#[], by rw [q]; simp⟩⟩
theorem Un.refl : Un fs ex H H h h := Un.kept fun _ _ q => q
theorem Un.laid (k : ∀ b u, h.get? b = some u → h'.get? b = some u) (hp : h.objs.size ≤ a) (hn : H a = none) : Un fs ex H (upd H a o) h h' where
  keep := fun b u q _ _ _ => k b u q
  slot := fun b u q _ _ _ => ⟨u.slots, k b u q⟩
  free := fun b u q n _ => by rw [upd_ne (Nat.ne_of_lt (Nat.lt_of_lt_of_le (Heap.lt_size q) hp))]; exact n
  there := fun b u q _ => ⟨u, k b u q⟩
  tups := fun b xs q => by rw [upd_ne (ne_of_none q hn)]; exact q
  frzs := fun b u xs q => by rw [upd_ne (ne_of_none q hn)]; exact q
  tbls := fun b ps q => ⟨#[], by rw [upd_ne (ne_of_none q hn), q]; simp⟩
theorem Un.write (mu : Mut (H x)) (he : e = x ∨ H e = some (.own x)) (k : ∀ b u, b ≠ e → h.get? b = some u → h'.get? b = some u) (heo : ∃ u, h'.get? e = some u) : Un fs ex H (upd H x o) h h' := by
  have hx : ∀ b, H b = none → b ≠ x := fun b n z => by subst z; rw [n] at mu; exact mu
  have hb : ∀ b, H b = none → b ≠ e := fun b n z => by
    subst z
    rcases he with r | r
    · exact hx b n r
    · rw [n] at r; cases r
  have hm : ∀ b u, H b = some u → ¬ Mut (some u) → b ≠ x := fun b u q nm z => by subst z; rw [q] at mu; exact nm mu
  refine ⟨fun b u q n _ _ => k b u (hb b n) q, fun b u q n _ _ => ⟨u.slots, k b u (hb b n) q⟩, fun b u q n _ => by rw [upd_ne (hx b n)]; exact n, fun b u q _ => ?_,
    fun b xs q => by rw [upd_ne (hm b _ q fun z => z)]; exact q, fun b u xs q => by rw [upd_ne (hm b _ q fun z => z)]; exact q, fun b ps q => ⟨#[], by rw [upd_ne (hm b _ q fun z => z), q]; simp⟩⟩
  by_cases hbe : b = e
  · subst hbe; exact heo
  · exact ⟨u, k b u hbe q⟩
end
def trk (h : Heap) (H : Hp) : List Addr := (List.range h.objs.size).filter fun a => (H a).isSome
def hidT (h : Heap) (H : Hp) : Heap := PySem.W.hideAll h (trk h H)
theorem hidT_size (h : Heap) (H : Hp) : (hidT h H).objs.size = h.objs.size := PySem.W.hideAll_size _ _
theorem hidT_get {h : Heap} {H : Hp} {b : Addr} {o : Obj} (e : h.get? b = some o) (n : H b = none) : (hidT h H).get? b = some o :=
  PySem.W.hideAll_get _ e fun hm => by
    have q : (H b).isSome = true := (List.mem_filter.mp hm).2
    rw [n] at q; simp at q
theorem of_hidT {h : Heap} {H : Hp} {b : Addr} {o : Obj} (e : (hidT h H).get? b = some o) : h.get? b = some o ∧ H b = none := by
  have e' : h.get? b = some o := PySem.W.of_hideAll (trk h H) e
  refine ⟨e', ?_⟩
  cases q : H b with
  | none => rfl
  | some x =>
    have hm : b ∈ trk h H := List.mem_filter.mpr ⟨List.mem_range.mpr (Heap.lt_size e'), by simp [q]⟩
    have z : (hidT h H).get? b = none := PySem.W.hideAll_none (trk h H) hm
    rw [z] at e; cases e
def allNews (g h : Heap) (L : Addr) : List (Addr × Obj) := (List.range h.objs.size).filterMap fun a => if a = L ∨ (g.get? a).isSome = true then none else (h.get? a).map fun o => (a, o)
theorem mem_allNews {g h : Heap} {L a : Addr} {o : Obj} (h1 : a ≠ L) (h2 : g.get? a = none) (h3 : h.get? a = some o) : (a, o) ∈ allNews g h L :=
  List.mem_filterMap.mpr ⟨a, List.mem_range.mpr (Heap.lt_size h3), by simp [h1, h2, h3]⟩
theorem of_mem_allNews {g h : Heap} {L : Addr} {p : Addr × Obj} (hp : p ∈ allNews g h L) : p.1 ≠ L ∧ g.get? p.1 = none ∧ h.get? p.1 = some p.2 := by
  obtain ⟨b, _, e⟩ := List.mem_filterMap.mp hp
  split at e
  · cases e
  · rename_i hn
    cases q : h.get? b with
    | none => rw [q] at e; simp at e
    | some u =>
      rw [q] at e
      simp only [Option.map_some, Option.some.injEq] at e
      subst e
      refine ⟨fun z => hn (.inl z), ?_, q⟩
      show g.get? b = none
      cases r : g.get? b with
      | none => rfl
      | some v => exact (hn (.inr (by simp [r]))).elim
theorem news_all {g h : Heap} {L : Addr} : News g L h (allNews g h L) := fun p hp => let ⟨a, b, c⟩ := of_mem_allNews hp; ⟨c, a, b⟩
end L2
namespace L2
open PySem PySem.Spec PyProof.Rows
structure Mod (K : PySem.W.Frag) (mg : Str → Option Value) (base : Heap) : Prop where
  kin : K.In base
  glob : base.Ns mainGlobals mg
  blt : ∃ mb, base.Ns builtinsNs mb ∧ ∀ x : Str, x ≠ "__name__" → mb x = bootBuiltins x
  nolimit : base.NoLimit
structure Cx where
  prog : Program
  w : World
  K : PySem.W.Frag
  mg : Str → Option Value
  base : Heap
  A : Around
  N : List Str
  s₀ : Shared
  H₀ : Hp
  env : Env
  outer : List Env
  stack : List Env
  ex : List Addr
  fn : Str → Bool
  calm : Bool
  pn : List (Addr × Obj)
  xe : Value → Shared → Prop
def frs (l : List Env) : List Addr := l.filterMap (·.frame)
abbrev Cx.fs (X : Cx) : List Addr := frs X.outer
def Vis (sc : Scope) (x : Str) : Prop := sc.names.lookup x = some .local ∨ sc.names.lookup x = some .cell ∨ sc.names.lookup x = some .free
def Loc (sc : Scope) (x : Str) : Prop := sc.names.lookup x = some .local ∨ sc.names.lookup x = some .cell
def Look (env : Env) (h : Heap) (m : Str → Option Value) (x : Str) (u : Value) : Prop :=
  (env.kindOf x = some .local ∧ m x = some u) ∨ ((env.kindOf x = some .cell ∨ env.kindOf x = some .free) ∧ ∃ c, env.cells.lookup x = some c ∧ h.IsCell c (some u))
structure Cx.Ok (X : Cx) : Prop where
  mod : Mod X.K X.mg X.base
  kind : X.env.scope.kind = .function
  glob : X.env.globals = mainGlobals
  blt : X.env.builtins = builtinsNs
  above : X.s₀.heap.objs.size ≤ X.env.locals
  inj : ∀ x y c, X.env.cells.lookup x = some c → X.env.cells.lookup y = some c → x = y
  has : ∀ x, (X.env.kindOf x = some .cell ∨ X.env.kindOf x = some .free) → ∃ c, X.env.cells.lookup x = some c
  cab : ∀ x c, X.fn x = true → X.env.cells.lookup x = some c → X.s₀.heap.objs.size ≤ c
  hd : X.calm = true → X.A.handled = none
  frames : X.A.frames = some X.stack
  stk : X.stack = X.outer ∨ (X.stack = X.env :: X.outer ∧ X.env.frame = some X.env.locals)
  exf : ∀ b ∈ X.ex, b ≠ X.env.locals ∧ ∀ x c, X.env.cells.lookup x = some c → c ≠ b
  bs : ∀ b o, X.base.get? b = some o → X.s₀.heap.get? b = some o ∧ X.H₀ b = none
  bsz : X.base.objs.size ≤ X.s₀.heap.objs.size
  noex : ∀ b o, X.base.get? b = some o → b ∉ X.ex
  exfs : ∀ b ∈ X.ex, b ∉ X.fs
  funs : X.s₀.heap.FunFrames X.base X.outer
  frf : ∀ b ∈ X.fs, X.H₀ b = none
structure Inv (X : Cx) (pins : List (Addr × Obj)) (σ : List (Option V)) (H : Hp) (s : Shared) : Prop where
  ok : X.Ok
  os : s.os = X.s₀.os
  bare : AllBare s.gens
  base : Un X.fs X.ex X.H₀ H X.s₀.heap s.heap
  loc : ∃ m, s.heap.Ns X.env.locals m ∧ ∀ (i : Nat) (x : Str) (v : V), X.N[i]? = some x → σ[i]? = some (some v) → Vis X.env.scope x → ∃ u, RelV v u ∧ Look X.env s.heap m x u
  cell : ∀ x c, X.env.cells.lookup x = some c → ∃ v, s.heap.IsCell c v
  free : H X.env.locals = none
  freeC : ∀ x c, X.env.cells.lookup x = some c → H c = none
  pin : ∀ p ∈ X.pn ++ pins, s.heap.get? p.1 = some p.2 ∧ H p.1 = none ∧ p.1 ≠ X.env.locals ∧ p.1 ∉ X.fs ∧ ∀ v, p.2.data ≠ .cell v
  hok : HOk X.prog X.w H s.heap
  len : σ.length = X.N.length
section
variable {X : Cx} {pins : List (Addr × Obj)} {σ : List (Option V)} {H H' : Hp} {s : Shared} {h' : Heap}
theorem Cx.Ok.nofr (ok : X.Ok) {b : Addr} {o : Obj} (e : X.base.get? b = some o) : b ∉ X.fs := fun hb => by
  have := (ok.funs.mem hb).1
  rw [e] at this; cases this
theorem Inv.bs (I : Inv X pins σ H s) : ∀ b o, X.base.get? b = some o → s.heap.get? b = some o ∧ H b = none := fun b o e =>
  ⟨I.base.keep b o (I.ok.bs b o e).1 (I.ok.bs b o e).2 (I.ok.nofr e) (I.ok.noex b o e), I.base.free b o (I.ok.bs b o e).1 (I.ok.bs b o e).2 (I.ok.noex b o e)⟩
theorem Inv.bk (I : Inv X pins σ H s) : ∀ b o, X.base.get? b = some o → s.heap.get? b = some o := fun b o e => (I.bs b o e).1
theorem Inv.mod (I : Inv X pins σ H s) : Mod X.K X.mg X.base := I.ok.mod
theorem Inv.kIn (I : Inv X pins σ H s) : X.K.In s.heap := I.ok.mod.kin.keeps I.bk
theorem Inv.fr (I : Inv X pins σ H s) : ∃ m, Fr X.base X.env.locals s.heap m :=
  let ⟨m, hn, _⟩ := I.loc
  ⟨m, hn, I.bk, Nat.le_trans I.ok.bsz I.ok.above⟩
theorem Inv.lt (I : Inv X pins σ H s) : X.env.locals < s.heap.objs.size := let ⟨_, hn, _⟩ := I.loc; hn.lt
theorem Inv.sz (I : Inv X pins σ H s) : X.s₀.heap.objs.size ≤ s.heap.objs.size := Nat.le_trans I.ok.above (Nat.le_of_lt I.lt)
theorem Inv.nofs (I : Inv X pins σ H s) {a : Addr} (h : s.heap.objs.size ≤ a) : a ∉ X.fs := fun hb => by
  obtain ⟨_, o, ho, _⟩ := I.ok.funs.mem hb
  exact absurd (Nat.lt_of_lt_of_le (Heap.lt_size ho) (Nat.le_trans I.sz h)) (Nat.lt_irrefl _)
theorem Inv.cne (I : Inv X pins σ H s) : ∀ x c, X.env.cells.lookup x = some c → c ≠ X.env.locals := fun x c e z => by
  obtain ⟨v, o, ho, hd⟩ := I.cell x c e
  obtain ⟨m, ⟨o', es, ep, ho', hd', _⟩, _⟩ := I.loc
  rw [z, ho'] at ho; cases ho; rw [hd'] at hd; cases hd
theorem Inv.funs (I : Inv X pins σ H s) : s.heap.FunFrames X.base X.outer := by
  have all : ∀ (l : List Env), (∀ b ∈ frs l, b ∈ X.fs) → X.s₀.heap.FunFrames X.base l → s.heap.FunFrames X.base l := by
    intro l
    induction l with
    | nil => intro _ _; trivial
    | cons env r ih =>
      intro hs hl
      obtain ⟨hk, ⟨L, o, hf, hn, ho, hd⟩, hr⟩ := hl
      have hL : L ∈ X.fs := hs L (by unfold frs; rw [List.filterMap_cons, hf]; exact List.mem_cons_self)
      obtain ⟨sl, e⟩ := I.base.slot L o ho (I.ok.frf L hL) hL fun z => I.ok.exfs L z hL
      exact ⟨hk, ⟨L, _, hf, hn, e, hd⟩, ih (fun b hb => hs b (by unfold frs; rw [List.filterMap_cons, hf]; exact List.mem_cons_of_mem _ hb)) hr⟩
  exact all X.outer (fun _ hb => hb) I.ok.funs
theorem Inv.stack (I : Inv X pins σ H s) : s.heap.FunFrames X.base X.stack := by
  rcases I.ok.stk with e | ⟨e, hf⟩
  · rw [e]; exact I.funs
  · rw [e]
    obtain ⟨m, hn, _⟩ := I.loc
    refine .cons (by rw [I.ok.kind]; decide) hf hn ?_ I.funs
    exact Heap.get?_none_of_le (Nat.le_trans I.ok.bsz I.ok.above)
theorem Inv.stkSub (I : Inv X pins σ H s) : ∀ b ∈ frs X.stack, b ∈ X.env.locals :: X.fs := fun b hb => by
  rcases I.ok.stk with e | ⟨e, hf⟩
  · rw [e] at hb; exact List.mem_cons_of_mem _ hb
  · rw [e] at hb
    unfold frs at hb
    rw [List.filterMap_cons, hf] at hb
    exact hb
theorem Inv.stkFree (I : Inv X pins σ H s) : ∀ b ∈ frs X.stack, H b = none := fun b hb => by
  rcases List.mem_cons.mp (I.stkSub b hb) with e | hb
  · rw [e]; exact I.free
  · obtain ⟨_, o, ho, _⟩ := I.ok.funs.mem hb
    exact I.base.free b o ho (I.ok.frf b hb) fun z => I.ok.exfs b z hb
theorem Inv.step {g' : Array GenState} {t' : Nat} {d' : Drawn} {ch : List Addr} (I : Inv X pins σ H s)
    (hch : ∀ b ∈ ch, (b ∈ X.ex ∨ X.s₀.heap.objs.size ≤ b) ∧ b ≠ X.env.locals ∧ (∀ x c, X.env.cells.lookup x = some c → c ≠ b) ∧ ∀ p ∈ X.pn ++ pins, p.1 ≠ b)
    (keep : ∀ b o, b ≠ X.env.locals → b ∉ X.fs → b ∉ ch → s.heap.get? b = some o → H b = none → h'.get? b = some o)
    (slot : ∀ b o, b ≠ X.env.locals → b ∈ X.fs → b ∉ ch → s.heap.get? b = some o → H b = none → ∃ sl, h'.get? b = some { o with slots := sl }) (free : ∀ b o, b ∉ ch → s.heap.get? b = some o → H b = none → H' b = none)
    (there : ∀ b o, b ∉ ch → s.heap.get? b = some o → ∃ o', h'.get? b = some o')
    (tups : ∀ b xs, H b = some (.tup xs) → H' b = some (.tup xs)) (frzs : ∀ b o u, H b = some (.frz o u) → H' b = some (.frz o u)) (tbls : ∀ b ps, H b = some (.tbl ps) → ∃ more, H' b = some (.tbl (ps ++ more)))
    (ns : ∀ m, s.heap.Ns X.env.locals m → h'.Ns X.env.locals m) (hok : HOk X.prog X.w H' h') (hg : AllBare g') :
    Inv X pins σ H' { s with heap := h', gens := g', drawn := d', toks := t' } := by
  have neL : ∀ b o, X.s₀.heap.get? b = some o → b ≠ X.env.locals := fun b o e => Nat.ne_of_lt (Nat.lt_of_lt_of_le (Heap.lt_size e) I.ok.above)
  have neC : ∀ b o, X.s₀.heap.get? b = some o → b ∉ X.ex → b ∉ ch := fun b o e hx hb => by
    rcases (hch b hb).1 with z | z
    · exact hx z
    · exact absurd (Nat.lt_of_lt_of_le (Heap.lt_size e) z) (Nat.lt_irrefl _)
  have cellK : ∀ x c, X.env.cells.lookup x = some c → ∀ v, s.heap.IsCell c v → h'.IsCell c v := fun x c e v ⟨o, ho, hd⟩ => by
    have nch : c ∉ ch := fun z => (hch c z).2.2.1 x c e rfl
    by_cases hc : c ∈ X.fs
    · obtain ⟨sl, q⟩ := slot c o (I.cne x c e) hc nch ho (I.freeC x c e)
      exact ⟨_, q, hd⟩
    · exact ⟨o, keep c o (I.cne x c e) hc nch ho (I.freeC x c e), hd⟩
  refine ⟨I.ok, I.os, hg, ⟨fun b o e n hb hx => ?_, fun b o e n hb hx => ?_, fun b o e n hx => ?_, fun b o e hx => ?_, fun b xs e => tups b xs (I.base.tups b xs e), fun b o xs e => frzs b o xs (I.base.frzs b o xs e), fun b ps e => ?_⟩, ?_, fun x c e => ?_, ?_, fun x c e => ?_, fun p hp => ?_, hok, I.len⟩
  · exact keep b o (neL b o e) hb (neC b o e hx) (I.base.keep b o e n hb hx) (I.base.free b o e n hx)
  · obtain ⟨sl, e1⟩ := I.base.slot b o e n hb hx
    obtain ⟨sl', e2⟩ := slot b _ (neL b o e) hb (neC b o e hx) e1 (I.base.free b o e n hx)
    exact ⟨sl', e2⟩
  · obtain ⟨o', e1⟩ := I.base.there b o e hx
    exact free b o' (neC b o e hx) e1 (I.base.free b o e n hx)
  · obtain ⟨o', e1⟩ := I.base.there b o e hx
    exact there b o' (neC b o e hx) e1
  · obtain ⟨m1, e1⟩ := I.base.tbls b ps e
    obtain ⟨m2, e2⟩ := tbls b _ e1
    exact ⟨m1 ++ m2, by rw [e2, Array.append_assoc]⟩
  · obtain ⟨m, hn, hl⟩ := I.loc
    refine ⟨m, ns m hn, fun i x v e1 e2 e3 => ?_⟩
    obtain ⟨u, r, l⟩ := hl i x v e1 e2 e3
    refine ⟨u, r, ?_⟩
    rcases l with l | ⟨k, c, e, z⟩
    · exact .inl l
    · exact .inr ⟨k, c, e, cellK x c e _ z⟩
  · obtain ⟨v, z⟩ := I.cell x c e
    exact ⟨v, cellK x c e v z⟩
  · obtain ⟨m, ⟨o, _, _, ho, _⟩, _⟩ := I.loc
    exact free _ o (fun z => (hch _ z).2.1 rfl) ho I.free
  · obtain ⟨v, o, ho, hd⟩ := I.cell x c e
    exact free c o (fun z => (hch c z).2.2.1 x c e rfl) ho (I.freeC x c e)
  · obtain ⟨e, n, ne, nf, d⟩ := I.pin p hp
    have nch : p.1 ∉ ch := fun z => (hch p.1 z).2.2.2 p hp rfl
    exact ⟨keep p.1 p.2 ne nf nch e n, free p.1 p.2 nch e n, ne, nf, d⟩
theorem Inv.un {t' : Nat} (I : Inv X pins σ H s) (u : Un X.fs [] H H' s.heap h') (hok : HOk X.prog X.w H' h') : Inv X pins σ H' { s with heap := h', toks := t' } := by
  obtain ⟨m, ⟨o, es, ep, ho, r⟩, _⟩ := id I.loc
  obtain ⟨sl, hL⟩ := u.any ho I.free (by simp)
  exact I.step (g' := s.gens) (d' := s.drawn) (ch := []) (fun _ z => nomatch z) (fun b o _ hb _ e n => u.keep b o e n hb (by simp)) (fun b o _ hb _ e n => u.slot b o e n hb (by simp)) (fun b o _ e n => u.free b o e n (by simp)) (fun b o _ e => u.there b o e (by simp)) u.tups u.frzs u.tbls (fun m' hm => by
    obtain ⟨o', es', ep', ho', r'⟩ := hm
    rw [ho] at ho'; cases ho'
    exact ⟨_, es', ep', hL, r'⟩) hok I.bare
theorem Inv.call {g' : Array GenState} {t' : Nat} {d' : Drawn} {ch : List Addr} (I : Inv X pins σ H s) (u : Un (frs X.stack) ch H H' s.heap h') (hok : HOk X.prog X.w H' h') (hg : AllBare g')
    (hch : ∀ b ∈ ch, (b ∈ X.ex ∨ X.s₀.heap.objs.size ≤ b) ∧ b ≠ X.env.locals ∧ (∀ x c, X.env.cells.lookup x = some c → c ≠ b) ∧ ∀ p ∈ X.pn ++ pins, p.1 ≠ b) :
    Inv X pins σ H' { s with heap := h', gens := g', drawn := d', toks := t' } := by
  obtain ⟨m, ⟨o, es, ep, ho, r⟩, _⟩ := id I.loc
  obtain ⟨sl, hL⟩ := u.any ho I.free fun z => (hch _ z).2.1 rfl
  exact I.step (ch := ch) hch (fun b o hL hb hc e n => u.keep b o e n (fun z => (List.mem_cons.mp (I.stkSub b z)).elim hL hb) hc) (fun b o _ _ hc e n => u.any e n hc) (fun b o hc e n => u.free b o e n hc) (fun b o hc e => u.there b o e hc) u.tups u.frzs u.tbls (fun m' hm => by
    obtain ⟨o', es', ep', ho', r'⟩ := hm
    rw [ho] at ho'; cases ho'
    exact ⟨_, es', ep', hL, r'⟩) hok hg
theorem Inv.turned {t' : Nat} {it : Addr} (I : Inv X pins σ H s) (k : ∀ b o, b ≠ it → s.heap.get? b = some o → h'.get? b = some o) (hn : H it = none) (hL : it ≠ X.env.locals)
    (h1 : it ∈ X.ex ∨ X.s₀.heap.objs.size ≤ it) (h2 : ∀ x c, X.env.cells.lookup x = some c → c ≠ it) (h3 : ∀ p ∈ X.pn ++ pins, p.1 ≠ it) : Inv X pins σ H { s with heap := h', toks := t' } := by
  have nit : ∀ b u, H b = some u → b ≠ it := fun b u e z => by rw [z, hn] at e; cases e
  refine I.step (g' := s.gens) (d' := s.drawn) (ch := [it]) (fun b hb => ?_) (fun b o _ _ hc e _ => k b o (fun z => hc (by simp [z])) e) (fun b o _ _ hc e _ => ⟨o.slots, k b o (fun z => hc (by simp [z])) e⟩) (fun _ _ _ _ n => n)
    (fun b o hc e => ⟨o, k b o (fun z => hc (by simp [z])) e⟩) (fun _ _ e => e) (fun _ _ _ e => e) (fun b ps e => ⟨#[], by rw [e]; simp⟩) (fun m hm => ?_) (fun b u e => ?_) I.bare
  · have e : b = it := by simpa using hb
    subst e
    exact ⟨h1, hL, h2, h3⟩
  · obtain ⟨o, es, ep, ho, r⟩ := hm
    exact ⟨o, es, ep, k _ o (Ne.symm hL) ho, r⟩
  · refine (I.hok b u e).stay (fun c v hc q => k c v ?_ q) (fun _ q => q) fun _ _ q => q
    rcases hc with z | z
    · rw [z]; exact nit b u e
    · exact nit c _ z
theorem Inv.tok (I : Inv X pins σ H s) (t : Nat) : Inv X pins σ H { s with toks := t } := I.un (h' := s.heap) (t' := t) Un.refl I.hok
theorem Inv.kept {t' : Nat} (I : Inv X pins σ H s) (k : ∀ b u, s.heap.get? b = some u → h'.get? b = some u) : Inv X pins σ H { s with heap := h', toks := t' } := I.un (Un.kept k) (I.hok.kept k)
theorem Inv.laid {a : Addr} {o : HO} {t' : Nat} (I : Inv X pins σ H s) (k : ∀ b u, s.heap.get? b = some u → h'.get? b = some u) (hp : s.heap.objs.size ≤ a) (new : ObjOk X.prog X.w (upd H a o) h' a o) :
    Inv X pins σ (upd H a o) { s with heap := h', toks := t' } := I.un (Un.laid k hp (I.hok.fresh hp)) (I.hok.laid k hp new)
theorem Inv.write {x e : Addr} {o : HO} {t' : Nat} (I : Inv X pins σ H s) (mu : Mut (H x)) (he : e = x ∨ H e = some (.own x)) (k : ∀ b u, b ≠ e → s.heap.get? b = some u → h'.get? b = some u) (heo : ∃ u, h'.get? e = some u)
    (new : ObjOk X.prog X.w (upd H x o) h' x o) : Inv X pins σ (upd H x o) { s with heap := h', toks := t' } := I.un (Un.write mu he k heo) (I.hok.write mu he k heo new)
theorem Inv.pins_of {pins' : List (Addr × Obj)} (I : Inv X pins σ H s) (h : ∀ p ∈ pins', s.heap.get? p.1 = some p.2 ∧ H p.1 = none ∧ p.1 ≠ X.env.locals ∧ p.1 ∉ X.fs ∧ ∀ v, p.2.data ≠ .cell v) : Inv X pins' σ H s :=
  ⟨I.ok, I.os, I.bare, I.base, I.loc, I.cell, I.free, I.freeC, fun p hp => (List.mem_append.mp hp).elim (fun z => I.pin p (List.mem_append_left _ z)) (h p), I.hok, I.len⟩
theorem nodup_ix {N : List Str} (hN : N.Nodup) {i j : Nat} {x : Str} (a : N[i]? = some x) (b : N[j]? = some x) : i = j := by
  obtain ⟨h1, e1⟩ := List.getElem?_eq_some_iff.mp a
  obtain ⟨h2, e2⟩ := List.getElem?_eq_some_iff.mp b
  exact (List.getElem_inj hN).mp (e1.trans e2.symm)
theorem store_ok2 {M : Model} {A : Around} {E : Value → Shared → Prop} {i : Nat} {x : Str} {v : V} {u : Value} {Q : Unit → Shared → Prop} (I : Inv X pins σ H s) (hN : X.N.Nodup) (hi : X.N[i]? = some x) (hx : Loc X.env.scope x) (r : RelV v u)
    (h : ∀ s', Inv X pins (σ.set i (some v)) H s' → (∃ a, Heap.SameBut a s.heap s'.heap ∧ (a = X.env.locals ∨ X.env.cells.lookup x = some a)) → Q () s') (hf : X.fn x = true ∨ X.env.scope.names.lookup x = some .local := by first | exact .inl rfl | exact .inr rfl | assumption) : wpAny M A (storeName X.env x u) Q E s := by
  obtain ⟨m, hn, hl⟩ := id I.loc
  have hcls : (X.env.scope.kind == .class || (X.env.scope.kind == .module && X.env.locals != X.env.globals)) = false := by rw [I.ok.kind]; rfl
  have hiσ : i < σ.length := by rw [I.len]; exact (List.getElem?_eq_some_iff.mp hi).1
  have cne := I.cne
  have tracked : ∀ {a : Addr} {h' : Heap}, (∃ o, s.heap.get? a = some o ∧ H a = none) → Heap.SameBut a s.heap h' → HOk X.prog X.w H h' := fun {a h'} ha hs b ob e => by
    obtain ⟨_, _, hfree⟩ := ha
    refine (I.hok b ob e).stay (fun c w' hc q => (hs.2 c ?_).trans q) (fun _ q => q) fun _ _ q => q
    rintro rfl
    rcases hc with rfl | hc
    · rw [hfree] at e; cases e
    · rw [hfree] at hc; cases hc
  rcases hx with hk | hk
  · refine wpAny_storeName_local hk hn (fun h' hn' hs => ?_) hcls
    obtain ⟨oL, _, _, hoL, _⟩ := id hn
    refine h _ ⟨I.ok, I.os, I.bare, ⟨fun b o e n hb hx => ?_, fun b o e n hb hx => ?_, I.base.free, fun b o e hx => ?_, I.base.tups, I.base.frzs, I.base.tbls⟩, ⟨_, hn', fun j y v' e1 e2 e3 => ?_⟩, fun y c e => ?_, I.free, I.freeC, fun p hp => ?_, tracked ⟨oL, hoL, I.free⟩ hs, by simpa using I.len⟩ ⟨_, hs, .inl rfl⟩
    · exact (hs.2 b (Nat.ne_of_lt (Nat.lt_of_lt_of_le (Heap.lt_size e) I.ok.above))).trans (I.base.keep b o e n hb hx)
    · obtain ⟨sl, e1⟩ := I.base.slot b o e n hb hx
      exact ⟨sl, (hs.2 b (Nat.ne_of_lt (Nat.lt_of_lt_of_le (Heap.lt_size e) I.ok.above))).trans e1⟩
    · obtain ⟨o', e1⟩ := I.base.there b o e hx
      exact ⟨o', (hs.2 b (Nat.ne_of_lt (Nat.lt_of_lt_of_le (Heap.lt_size e) I.ok.above))).trans e1⟩
    · by_cases hj : j = i
      · subst hj
        rw [hi] at e1; cases e1
        rw [List.getElem?_set_self hiσ] at e2
        cases e2
        exact ⟨u, r, .inl ⟨hk, by simp⟩⟩
      · rw [List.getElem?_set_ne (Ne.symm hj)] at e2
        obtain ⟨u', r', q⟩ := hl j y v' e1 e2 e3
        refine ⟨u', r', ?_⟩
        rcases q with ⟨k, e⟩ | ⟨k, c, e, z⟩
        · refine .inl ⟨k, ?_⟩
          have : y ≠ x := fun e => hj (nodup_ix hN e1 (e ▸ hi))
          simp [this, e]
        · exact .inr ⟨k, c, e, z.sameBut hs (cne y c e)⟩
    · obtain ⟨w', z⟩ := I.cell y c e
      exact ⟨w', z.sameBut hs (cne y c e)⟩
    · obtain ⟨e, n, ne, nf, d⟩ := I.pin p hp
      exact ⟨(hs.2 p.1 ne).trans e, n, ne, nf, d⟩
  · have hfn : X.fn x = true := by
      rcases hf with z | z
      · exact z
      · rw [z] at hk; cases hk
    obtain ⟨c, hc⟩ := I.ok.has x (.inl hk)
    obtain ⟨w', z⟩ := I.cell x c hc
    refine wpAny_storeName_cell I.ok.kind hk hc z (fun h' hc' hs => ?_)
    obtain ⟨oc, hoc, hocd⟩ := id z
    refine h { s with heap := h' } ⟨I.ok, I.os, I.bare, ⟨fun b o e n hb hx => ?_, fun b o e n hb hx => ?_, I.base.free, fun b o e hx => ?_, I.base.tups, I.base.frzs, I.base.tbls⟩, ⟨m, hn.sameBut hs (Ne.symm (cne x c hc)), fun j y v' e1 e2 e3 => ?_⟩, fun y c' e => ?_, I.free, I.freeC, fun p hp => ?_, tracked ⟨oc, hoc, I.freeC x c hc⟩ hs, by simpa using I.len⟩ ⟨c, hs, .inr hc⟩
    · exact (hs.2 b (Nat.ne_of_lt (Nat.lt_of_lt_of_le (Heap.lt_size e) (I.ok.cab x c hfn hc)))).trans (I.base.keep b o e n hb hx)
    · obtain ⟨sl, e1⟩ := I.base.slot b o e n hb hx
      exact ⟨sl, (hs.2 b (Nat.ne_of_lt (Nat.lt_of_lt_of_le (Heap.lt_size e) (I.ok.cab x c hfn hc)))).trans e1⟩
    · obtain ⟨o', e1⟩ := I.base.there b o e hx
      exact ⟨o', (hs.2 b (Nat.ne_of_lt (Nat.lt_of_lt_of_le (Heap.lt_size e) (I.ok.cab x c hfn hc)))).trans e1⟩
    · by_cases hj : j = i
      · subst hj
        rw [hi] at e1; cases e1
        rw [List.getElem?_set_self hiσ] at e2
        cases e2
        exact ⟨u, r, .inr ⟨.inl hk, c, hc, hc'⟩⟩
      · rw [List.getElem?_set_ne (Ne.symm hj)] at e2
        obtain ⟨u', r', q⟩ := hl j y v' e1 e2 e3
        refine ⟨u', r', ?_⟩
        rcases q with q | ⟨k, c', e, z'⟩
        · exact .inl q
        · refine .inr ⟨k, c', e, z'.sameBut hs ?_⟩
          rintro rfl
          exact hj (nodup_ix hN e1 (I.ok.inj _ _ _ e hc ▸ hi))
    · by_cases hcc : c' = c
      · subst hcc; exact ⟨_, hc'⟩
      · obtain ⟨w2, z2⟩ := I.cell y c' e
        exact ⟨w2, z2.sameBut hs hcc⟩
    · obtain ⟨e, n, ne, nf, d⟩ := I.pin p hp
      refine ⟨(hs.2 p.1 ?_).trans e, n, ne, nf, d⟩
      intro q
      rw [q, hoc] at e
      have q' : oc = p.2 := Option.some.inj e
      exact d w' (by rw [← q']; exact hocd)
theorem store_ok {M : Model} {A : Around} {E : Value → Shared → Prop} {i : Nat} {x : Str} {v : V} {u : Value} {Q : Unit → Shared → Prop} (I : Inv X pins σ H s) (hN : X.N.Nodup) (hi : X.N[i]? = some x) (hx : Loc X.env.scope x) (r : RelV v u)
    (h : ∀ s', Inv X pins (σ.set i (some v)) H s' → Q () s') (hf : X.fn x = true ∨ X.env.scope.names.lookup x = some .local := by first | exact .inl rfl | exact .inr rfl | assumption) : wpAny M A (storeName X.env x u) Q E s :=
  store_ok2 I hN hi hx r (fun s' I' _ => h s' I') hf
theorem Inv.call' {s' : Shared} {ch : List Addr} (I : Inv X pins σ H s) (ho : s'.os = s.os) (u : Un (frs X.stack) ch H H' s.heap s'.heap) (hok : HOk X.prog X.w H' s'.heap) (hg : AllBare s'.gens)
    (hch : ∀ b ∈ ch, (b ∈ X.ex ∨ X.s₀.heap.objs.size ≤ b) ∧ b ≠ X.env.locals ∧ (∀ x c, X.env.cells.lookup x = some c → c ≠ b) ∧ ∀ p ∈ X.pn ++ pins, p.1 ≠ b) : Inv X pins σ H' s' := by
  obtain ⟨h', g', d', t', o'⟩ := s'
  have e : o' = s.os := ho
  subst e
  exact I.call (g' := g') (t' := t') (d' := d') u hok hg hch
end
abbrev XK := Value → Option Addr → Hp → Prop
abbrev St := List (Option V)
abbrev VK := V → Hp → Prop
abbrev TE := St → Hp → VK → Prop
abbrev TT := St → Hp → (Bool → Hp → Prop) → Prop
abbrev TA := St → Hp → (List V → Hp → Prop) → Prop
structure Ends where
  nx : St → Hp → Prop
  rt : VK
  bk : St → Hp → Prop := fun _ _ => False
  ct : St → Hp → Prop := fun _ _ => False
abbrev TS := Ends → St → Hp → Prop
def EP (X : Cx) (pins : List (Addr × Obj)) (σ : St) (Q : VK) (u : Value) (s' : Shared) : Prop := ∃ v H', Inv X pins σ H' s' ∧ RelV v u ∧ Q v H'
def TP (X : Cx) (pins : List (Addr × Obj)) (σ : St) (Q : Bool → Hp → Prop) (b : Bool) (s' : Shared) : Prop := ∃ H', Inv X pins σ H' s' ∧ Q b H'
def AP (X : Cx) (pins : List (Addr × Obj)) (σ : St) (Q : List V → Hp → Prop) (us : List Value) (s' : Shared) : Prop := ∃ vs H', Inv X pins σ H' s' ∧ Vals vs us ∧ Q vs H'
def SP (X : Cx) (pins : List (Addr × Obj)) (D : Ends) (f : Flow) (s' : Shared) : Prop :=
  match f with
  | .next => ∃ σ' H', Inv X pins σ' H' s' ∧ D.nx σ' H'
  | .brk => ∃ σ' H', Inv X pins σ' H' s' ∧ D.bk σ' H'
  | .cont => ∃ σ' H', Inv X pins σ' H' s' ∧ D.ct σ' H'
  | .ret u => ∃ v σ' H', Inv X pins σ' H' s' ∧ RelV v u ∧ D.rt v H'
def PE (X : Cx) (e : Expr) (t : TE) : Prop :=
  ∀ (pins : List (Addr × Obj)) (s : Shared) (σ : St) (H : Hp) (Q : VK), Inv X pins σ H s → t σ H Q → wpAny (model X.prog X.w) X.A (eval e X.env) (EP X pins σ Q) X.xe s
def PT (X : Cx) (e : Expr) (t : TT) : Prop :=
  ∀ (pins : List (Addr × Obj)) (s : Shared) (σ : St) (H : Hp) (Q : Bool → Hp → Prop), Inv X pins σ H s → t σ H Q → wpAny (model X.prog X.w) X.A (isTrue e X.env (eval e X.env)) (TP X pins σ Q) X.xe s
def PW (X : Cx) (e : Expr) (t : TT) : Prop :=
  ∀ (whole : Sem Value) (pins : List (Addr × Obj)) (s : Shared) (σ : St) (H : Hp) (Q : Bool → Hp → Prop), Inv X pins σ H s → t σ H Q → wpAny (model X.prog X.w) X.A (isTrue e X.env whole) (TP X pins σ Q) X.xe s
theorem PW.pt {X : Cx} {e : Expr} {t : TT} (h : PW X e t) : PT X e t := h _
def PA (X : Cx) (es : List Expr) (t : TA) : Prop :=
  ∀ (pos : Pos) (pins : List (Addr × Obj)) (s : Shared) (σ : St) (H : Hp) (Q : List V → Hp → Prop), Inv X pins σ H s → t σ H Q → wpAny (model X.prog X.w) X.A (spliced (backTo pos (starEach es X.env))) (AP X pins σ Q) X.xe s
def PS (X : Cx) (st : Stmt) (t : TS) : Prop :=
  ∀ (pins : List (Addr × Obj)) (s : Shared) (σ : St) (H : Hp) (D : Ends), Inv X pins σ H s → t D σ H → wpAny (model X.prog X.w) X.A (exec st X.env) (SP X pins D) X.xe s
def PSs (X : Cx) (st : List Stmt) (t : TS) : Prop :=
  ∀ (pins : List (Addr × Obj)) (s : Shared) (σ : St) (H : Hp) (D : Ends), Inv X pins σ H s → t D σ H → wpAny (model X.prog X.w) X.A (execs st X.env) (SP X pins D) X.xe s
theorem thn {α : Type} {t : Sem α} {Q Q' : α → Shared → Prop} {M : Model} {A : Around} {E : Value → Shared → Prop} {s : Shared} (h : wpAny M A t Q E s) (hQ : ∀ a s, Q a s → Q' a s) : wpAny M A t Q' E s := wpAny_mono h hQ fun _ _ x => x
end L2
namespace L2
open PySem PySem.Spec PyProof.Rows
section
variable {X : Cx}
def tVar (i : Nat) : TE := fun σ H Q => ∃ v, σ[i]? = some (some v) ∧ Q v H
def tC (v : V) : TE := fun _ H Q => Q v H
theorem pe_var {i : Nat} {x : Str} {pos : Pos} (hN : X.N[i]? = some x) (hv : Vis X.env.scope x) (hd : (x == ("__debug__" : Str)) = false := by decide) (hcd : (x == ("__classdict__" : Str)) = false := by decide) : PE X (.Name x pos) (tVar i) := by
  intro pins s σ H Q I h
  obtain ⟨v, e, h⟩ := h
  obtain ⟨m, hn, hl⟩ := I.loc
  obtain ⟨u, r, l⟩ := hl i x v hN e hv
  have fin : EP X pins σ Q u s := ⟨v, H, I, r, h⟩
  rcases l with ⟨hk, hm⟩ | ⟨hk, c, hc, hcell⟩
  · exact wpAny_Name (wpAny_loadName_local I.ok.kind hk hn hm fin) hd
  · rcases hk with hk | hk
    · exact wpAny_Name (wpAny_loadName_cell I.ok.kind hk hc hcell fin) hd
    · exact wpAny_Name (wpAny_loadName_free I.ok.kind hk hc hcell fin hcd) hd
theorem pe_int {i j pos} : PE X (.Constant (.int i) j pos) (tC (.int i)) := fun _ _ _ H _ I h => wpAny_Constant_int ⟨.int i, H, I.tok _, ⟨_, rfl⟩, h⟩
theorem pe_bl {b j pos} : PE X (.Constant (.bool b) j pos) (tC (.bl b)) := fun _ _ _ H _ I h => Constant_bool ⟨.bl b, H, I, rfl, h⟩
theorem pe_str {x j pos} : PE X (.Constant (.str x) j pos) (tC (.str x)) := fun _ _ _ H _ I h => Calls.Constant_str ⟨.str x, H, I.tok _, ⟨_, rfl⟩, h⟩
def Gl (X : Cx) (x : Str) : Prop := X.env.kindOf x = some .globalImplicit
theorem ld_glob {E : Value → Shared → Prop} {pins : List (Addr × Obj)} {s : Shared} {σ : St} {H : Hp} {x : Str} {u : Value} {pos : Pos} {Q : Value → Shared → Prop} (I : Inv X pins σ H s) (hg : Gl X x) (hm : X.mg x = some u) (h : Q u s)
    (hd : (x == ("__debug__" : Str)) = false := by decide) : wpAny (model X.prog X.w) X.A (eval (.Name x pos) X.env) Q E s :=
  Calls.Name_function_global I.ok.kind hg (Calls.loadGlobal_global (by rw [I.ok.glob]; exact I.mod.glob.keeps I.bk) hm h) hd
theorem ld_blt {E : Value → Shared → Prop} {pins : List (Addr × Obj)} {s : Shared} {σ : St} {H : Hp} {x : Str} {u : Value} {pos : Pos} {Q : Value → Shared → Prop} (I : Inv X pins σ H s) (hg : Gl X x) (hm : X.mg x = none) (hv : bootBuiltins x = some u) (h : Q u s)
    (hn : x ≠ "__name__" := by decide) (hd : (x == ("__debug__" : Str)) = false := by decide) : wpAny (model X.prog X.w) X.A (eval (.Name x pos) X.env) Q E s := by
  obtain ⟨mb, h1, h2⟩ := I.mod.blt
  exact Calls.Name_function_global I.ok.kind hg (Calls.loadGlobal_builtin (by rw [I.ok.glob]; exact I.mod.glob.keeps I.bk) hm (by rw [I.ok.blt]; exact h1.keeps I.bk) ((h2 x hn).trans hv) h) hd
theorem pe_bltn {x : Str} {v : V} {u : Value} {pos : Pos} (hg : Gl X x) (hm : X.mg x = none) (hv : bootBuiltins x = some u) (r : RelV v u) (hn : x ≠ "__name__" := by decide) (hd : (x == ("__debug__" : Str)) = false := by decide) : PE X (.Name x pos) (tC v) :=
  fun _ _ _ H _ I h => ld_blt I hg hm hv ⟨v, H, I, r, h⟩ hn hd
variable {a b : Expr} {ta tb : TE} {pos : Pos}
def tB (t : TE) : TT := fun σ H Q => t σ H fun x H1 => ∃ c, x = .bl c ∧ Q c H1
theorem pt_val {e : Expr} {t : TE} (h : PE X e t) (he : ∀ whole, isTrue e X.env whole = (do let v ← whole; standAt e.pos; holding [v] (truthy v)) := by intro _; rfl) : PT X e (tB t) := by
  intro pins s σ H Q I hw
  refine isTrue_plain (thn (h pins s σ H _ I hw) fun v s1 ⟨x, H1, I1, r1, q1⟩ => ?_) (he _)
  obtain ⟨d, rfl, q⟩ := q1
  cases r1
  exact wpAny_truthy_bool ⟨H1, I1, q⟩
variable {tA tB' : TT} {rest : List Expr}
def tAnd (t u : TT) : TT := fun σ H Q => t σ H fun c H1 => if c = true then u σ H1 Q else Q false H1
def tOr (t u : TT) : TT := fun σ H Q => t σ H fun c H1 => if c = true then Q true H1 else u σ H1 Q
def tNot (t : TT) : TT := fun σ H Q => t σ H fun c H1 => Q (!c) H1
theorem pw_and1 (ha : PT X a tA) : PW X (.BoolOp .And [a] pos) tA := by
  intro wh pins s σ H Q I h
  refine isTrue_and (thn (ha pins s σ H Q I h) fun c s1 e => ?_)
  cases c with
  | true => exact isTrue_and_nil e
  | false => exact e
theorem pw_or1 (ha : PT X a tA) : PW X (.BoolOp .Or [a] pos) tA := by
  intro wh pins s σ H Q I h
  refine isTrue_or (thn (ha pins s σ H Q I h) fun c s1 e => ?_)
  cases c with
  | false => exact isTrue_or_nil e
  | true => exact e
theorem pw_and (ha : PT X a tA) (hb : PW X (.BoolOp .And (b :: rest) pos) tB') : PW X (.BoolOp .And (a :: b :: rest) pos) (tAnd tA tB') := by
  intro wh pins s σ H Q I h
  refine isTrue_and (thn (ha pins s σ H _ I h) fun c s1 ⟨H1, I1, q1⟩ => ?_)
  cases c with
  | true => exact hb wh pins s1 σ H1 Q I1 q1
  | false => exact ⟨H1, I1, q1⟩
theorem pw_or (ha : PT X a tA) (hb : PW X (.BoolOp .Or (b :: rest) pos) tB') : PW X (.BoolOp .Or (a :: b :: rest) pos) (tOr tA tB') := by
  intro wh pins s σ H Q I h
  refine isTrue_or (thn (ha pins s σ H _ I h) fun c s1 ⟨H1, I1, q1⟩ => ?_)
  cases c with
  | true => exact ⟨H1, I1, q1⟩
  | false => exact hb wh pins s1 σ H1 Q I1 q1
theorem pt_not (ha : PT X a tA) : PT X (.UnaryOp .Not a pos) (tNot tA) := by
  intro pins s σ H Q I h
  exact isTrue_not (ha pins s σ H (fun c H1 => Q (!c) H1) I h)
def tAndV (ta tb : TE) : TE := fun σ H Q => ta σ H fun x H1 => ∃ c, x = .bl c ∧ if c = true then tb σ H1 Q else Q (.bl false) H1
def tOrV (ta tb : TE) : TE := fun σ H Q => ta σ H fun x H1 => ∃ c, x = .bl c ∧ if c = true then Q (.bl true) H1 else tb σ H1 Q
def tNotV (ta : TE) : TE := fun σ H Q => ta σ H fun x H1 => ∃ c, x = .bl c ∧ Q (.bl (!c)) H1
end
end L2
namespace L2
open PySem PySem.Spec PyProof.Rows
def SqL (K : PySem.W.Frag) (H : Hp) (a : Addr) (xs : List V) : Prop :=
  Rd H a (.lst xs) ∨
    ∃ (o : Obj) (its : Array Value) (n : Nat), K.lookup a = some o ∧ o.cls = .type "list" ∧ o.dict = none ∧ o.data = .seq its n ∧ its.size ≤ sizeLine ∧ Vals xs its.toList
def SqT (K : PySem.W.Frag) (H : Hp) (a : Addr) (xs : List V) : Prop :=
  Rd H a (.tup xs) ∨
    ∃ (o : Obj) (its : Array Value) (n : Nat), K.lookup a = some o ∧ o.cls = .type "tuple" ∧ o.data = .seq its n ∧ its.size ≤ sizeLine ∧ Vals xs its.toList
def absV : Value → Option V
  | .none => some .non
  | .bool b => some (.bl b)
  | .int i _ => some (.int i)
  | .str x _ => some (.str x)
  | .bytes b _ => some (.byt b)
  | .float b _ => some (.flt b)
  | .ref a => some (.ref a)
  | .type n => some (.ty n)
  | _ => none
theorem RelV.abs {x : V} {u : Value} (r : RelV x u) : absV u = some x := by
  cases x with
  | non => cases r; rfl
  | bl _ => cases r; rfl
  | int _ => obtain ⟨t, rfl⟩ := r; rfl
  | str _ => obtain ⟨t, rfl⟩ := r; rfl
  | byt _ => obtain ⟨t, rfl⟩ := r; rfl
  | flt _ => obtain ⟨t, rfl⟩ := r; rfl
  | ref _ => cases r; rfl
  | ty _ => cases r; rfl
theorem RelV.inj {x y : V} {u : Value} (r : RelV x u) (q : RelV y u) : x = y := Option.some.inj (r.abs.symm.trans q.abs)
theorem Vals.inj : ∀ {xs ys : List V} {us : List Value}, Vals xs us → Vals ys us → xs = ys
  | _, _, _, .nil, .nil => rfl
  | _, _, _, .cons r t, .cons r' t' => by rw [r.inj r', Vals.inj t t']
section
variable {X : Cx} {pins : List (Addr × Obj)} {σ : St} {H : Hp} {s : Shared} {a : Addr} {xs ys : List V}
theorem SqL.of {K : PySem.W.Frag} (h : H a = some (.lst xs)) : SqL K H a xs := .inl (.inl h)
theorem SqT.of {K : PySem.W.Frag} (h : H a = some (.tup xs)) : SqT K H a xs := .inl (.inl h)
theorem Inv.list (I : Inv X pins σ H s) (h : SqL X.K H a xs) : ∃ its : List Value, Vals xs its ∧ PlainL s.heap a its.toArray ∧ xs.length ≤ sizeLine := by
  rcases h with h | ⟨o, its, n, hk, hc, hd, hs, hz, r⟩
  · obtain ⟨z, its, n, r, e⟩ := h.ok I.hok
    exact ⟨its, r, ⟨_, n, e, rfl, rfl, rfl⟩, z⟩
  · refine ⟨its.toList, r, ⟨o, n, I.kIn a o hk, hc, hd, by simpa using hs⟩, ?_⟩
    have e := r.length
    simp only [Array.length_toList] at e
    omega
theorem Inv.tuple (I : Inv X pins σ H s) (h : SqT X.K H a xs) : ∃ its : List Value, Vals xs its ∧ IsTup s.heap a its.toArray ∧ xs.length ≤ sizeLine := by
  rcases h with h | ⟨o, its, n, hk, hc, hs, hz, r⟩
  · obtain ⟨z, its, r, p⟩ := h.ok I.hok
    exact ⟨its, r, p, z⟩
  · refine ⟨its.toList, r, ⟨o, I.kIn a o hk, hc, n, by simpa using hs⟩, ?_⟩
    have e := r.length
    simp only [Array.length_toList] at e
    omega
theorem Inv.list_inj (I : Inv X pins σ H s) (h : SqL X.K H a xs) (h' : SqL X.K H a ys) : xs = ys := by
  obtain ⟨its, r, ⟨o, n, e, _, _, d⟩, _⟩ := I.list h
  obtain ⟨its', r', ⟨o', n', e', _, _, d'⟩, _⟩ := I.list h'
  rw [e] at e'; cases e'
  rw [d] at d'
  injection d' with d1 _
  have : its = its' := by simpa using congrArg Array.toList d1
  subst this
  exact r.inj r'
theorem Inv.tuple_inj (I : Inv X pins σ H s) (h : SqT X.K H a xs) (h' : SqT X.K H a ys) : xs = ys := by
  obtain ⟨its, r, ⟨o, e, _, n, d⟩, _⟩ := I.tuple h
  obtain ⟨its', r', ⟨o', e', _, n', d'⟩, _⟩ := I.tuple h'
  rw [e] at e'; cases e'
  rw [d] at d'
  injection d' with d1 _
  have : its = its' := by simpa using congrArg Array.toList d1
  subst this
  exact r.inj r'
end
abbrev Cx.wish (X : Cx) (E : Value → Shared → Prop) : Cx := { X with xe := E }
abbrev Cx.nox (X : Cx) : Cx := X.wish fun _ _ => False
theorem Cx.Ok.wish {X : Cx} (ok : X.Ok) (E : Value → Shared → Prop) : (X.wish E).Ok :=
  ⟨ok.mod, ok.kind, ok.glob, ok.blt, ok.above, ok.inj, ok.has, ok.cab, ok.hd, ok.frames, ok.stk, ok.exf, ok.bs, ok.bsz, ok.noex, ok.exfs, ok.funs, ok.frf⟩
theorem Cx.Ok.unwish {X : Cx} {E : Value → Shared → Prop} (ok : (X.wish E).Ok) : X.Ok :=
  ⟨ok.mod, ok.kind, ok.glob, ok.blt, ok.above, ok.inj, ok.has, ok.cab, ok.hd, ok.frames, ok.stk, ok.exf, ok.bs, ok.bsz, ok.noex, ok.exfs, ok.funs, ok.frf⟩
section
variable {X : Cx} {pins : List (Addr × Obj)} {σ : St} {H : Hp} {s : Shared} {E : Value → Shared → Prop}
theorem Inv.wish (I : Inv X pins σ H s) (E : Value → Shared → Prop) : Inv (X.wish E) pins σ H s := ⟨I.ok.wish E, I.os, I.bare, I.base, I.loc, I.cell, I.free, I.freeC, I.pin, I.hok, I.len⟩
theorem Inv.unwish (I : Inv (X.wish E) pins σ H s) : Inv X pins σ H s := ⟨I.ok.unwish, I.os, I.bare, I.base, I.loc, I.cell, I.free, I.freeC, I.pin, I.hok, I.len⟩
theorem SP.unwish {D : Ends} {f : Flow} {s' : Shared} (h : SP (X.wish E) pins D f s') : SP X pins D f s' := by
  cases f with
  | next => obtain ⟨σ', H', I, q⟩ := h; exact ⟨σ', H', I.unwish, q⟩
  | brk => obtain ⟨σ', H', I, q⟩ := h; exact ⟨σ', H', I.unwish, q⟩
  | cont => obtain ⟨σ', H', I, q⟩ := h; exact ⟨σ', H', I.unwish, q⟩
  | ret u => obtain ⟨v, σ', H', I, r, q⟩ := h; exact ⟨v, σ', H', I.unwish, r, q⟩
theorem PSs.nox {st : List Stmt} {t : TS} (h : PSs X.nox st t) : PSs X st t := fun pins s σ H D I hw =>
  wpAny_mono (h pins s σ H D (I.wish _) hw) (fun _ _ q => q.unwish) fun _ _ z => False.elim z
end
section
variable {X : Cx} {st : Stmt} {rest : List Stmt} {t u : TS} {e : Expr} {te : TE} {pos : Pos}
def tNext : TS := fun D σ H => D.nx σ H
def tSeq (t u : TS) : TS := fun D σ H => t { D with nx := u D } σ H
theorem pss_nil : PSs X [] tNext := fun _ _ σ H _ I h => wpAny_execs_nil ⟨σ, H, I, h⟩
theorem pss_cons (h1 : PS X st t) (h2 : PSs X rest u) : PSs X (st :: rest) (tSeq t u) := by
  intro pins s σ H D I h
  refine wpAny_execs_cons (thn (h1 pins s σ H { D with nx := u D } I h) fun f s1 q => ?_)
  cases f with
  | next =>
    obtain ⟨σ', H', I', q⟩ := q
    exact h2 pins s1 σ' H' D I' q
  | ret v => exact q
  | brk => exact q
  | cont => exact q
theorem pss_one (h1 : PS X st t) : PSs X [st] t := by
  intro pins s σ H D I h
  refine wpAny_execs_cons (thn (h1 pins s σ H D I h) fun f s1 q => ?_)
  cases f with
  | next => exact wpAny_execs_nil q
  | ret v => exact q
  | brk => exact q
  | cont => exact q
theorem Inv.quiet {pins : List (Addr × Obj)} {σ : St} {H : Hp} {s : Shared} (I : Inv X pins σ H s) : interactive X.env = false := by simp [interactive, I.ok.kind]
def tDrop (te : TE) : TS := fun D σ H => te σ H fun _ H1 => D.nx σ H1
theorem ps_expr (he : PE X e te) (hs : swapsWith e none pos.line X.env = pure false := by rfl) : PS X (.Expr e pos) (tDrop te) := by
  intro pins s σ H D I h
  exact wpAny_Expr_any (thn (he pins s σ H _ I h) fun v s1 ⟨x, H1, I1, r1, q1⟩ => ⟨σ, H1, I1, q1⟩) I.quiet hs
def tRet (te : TE) : TS := fun D σ H => te σ H D.rt
theorem ps_ret (he : PE X e te) : PS X (.Return (some e) pos) (tRet te) := by
  intro pins s σ H D I h
  exact wpAny_Return_some (thn (he pins s σ H _ I h) fun v s1 ⟨x, H1, I1, r1, q1⟩ => ⟨x, σ, H1, I1, r1, q1⟩)
def tIfS (c : TT) (t u : TS) : TS := fun D σ H => c σ H fun b H1 => if b = true then t D σ H1 else u D σ H1
theorem ps_if {c : Expr} {a b : List Stmt} {tc : TT} (hc : PT X c tc) (ha : PSs X a t) (hb : PSs X b u) : PS X (.If c a b pos) (tIfS tc t u) := by
  intro pins s σ H D I h
  refine wpAny_If (thn (hc pins s σ H _ I h) fun d s1 ⟨H1, I1, q1⟩ => ?_)
  cases d with
  | true => exact ha pins s1 σ H1 D I1 q1
  | false => exact hb pins s1 σ H1 D I1 q1
end
abbrev TG := V → St → Hp → (St → Hp → Prop) → Prop
abbrev TGs := List V → St → Hp → (St → Hp → Prop) → Prop
def PG (X : Cx) (target : Expr) (t : TG) : Prop :=
  ∀ (pins : List (Addr × Obj)) (s : Shared) (σ : St) (H : Hp) (v : V) (u : Value) (Q : St → Hp → Prop), Inv X pins σ H s → RelV v u → t v σ H Q →
    wpAny (model X.prog X.w) X.A (assign target X.env u) (fun _ s' => ∃ σ' H', Inv X pins σ' H' s' ∧ Q σ' H') X.xe s
def PGs (X : Cx) (ts : List Expr) (t : TGs) : Prop :=
  ∀ (pins : List (Addr × Obj)) (s : Shared) (σ : St) (H : Hp) (vs : List V) (us : List Value) (Q : St → Hp → Prop), Inv X pins σ H s → Vals vs us → t vs σ H Q →
    wpAny (model X.prog X.w) X.A (assignInOrder ((assignEach ts X.env).map (·.2)) us) (fun _ s' => ∃ σ' H', Inv X pins σ' H' s' ∧ Q σ' H') X.xe s
abbrev TSet := V → V → V → Hp → (Hp → Prop) → Prop
def PSet (X : Cx) (t : TSet) : Prop :=
  ∀ (pins : List (Addr × Obj)) (s : Shared) (σ : St) (H : Hp) (o i v : V) (ov iv u : Value) (Q : Hp → Prop), Inv X pins σ H s → RelV o ov → RelV i iv → RelV v u → t o i v H Q →
    wpAny (model X.prog X.w) X.A (setItem ov iv u) (fun _ s' => ∃ H', Inv X pins σ H' s' ∧ Q H') X.xe s
abbrev TIp := V → V → Hp → VK → Prop
def PIp (X : Cx) (op : Operator) (t : TIp) : Prop :=
  ∀ (pins : List (Addr × Obj)) (s : Shared) (σ : St) (H : Hp) (x y : V) (v u : Value) (Q : VK), Inv X pins σ H s → RelV x v → RelV y u → t x y H Q →
    wpAny (model X.prog X.w) X.A (inplaceOp op v u) (EP X pins σ Q) X.xe s
section
variable {X : Cx} {pos : Pos}
def gName (i : Nat) : TG := fun v σ H Q => Q (σ.set i (some v)) H
theorem pg_name {i : Nat} {x : Str} (hN : X.N.Nodup) (hi : X.N[i]? = some x) (hx : Loc X.env.scope x) (hf : X.fn x = true ∨ X.env.scope.names.lookup x = some .local := by first | exact .inl rfl | exact .inr rfl | assumption) : PG X (.Name x pos) (gName i) := by
  intro pins s σ H v u Q I r h
  exact wpAny_assign_Name (store_ok I hN hi hx r (fun s' I' => ⟨_, H, I', h⟩) hf)
def gNil : TGs := fun vs σ H Q => vs = [] ∧ Q σ H
def gCons (t : TG) (u : TGs) : TGs := fun vs σ H Q => ∃ v r, vs = v :: r ∧ t v σ H fun σ' H' => u r σ' H' Q
theorem pgs_nil : PGs X [] gNil := by
  intro pins s σ H vs us Q I r h
  obtain ⟨e, h⟩ := h
  subst e
  cases r
  exact assignInOrder_nil ⟨σ, H, I, h⟩
theorem pgs_cons {e : Expr} {es : List Expr} {t : TG} {u : TGs} (h1 : PG X e t) (h2 : PGs X es u)
    (hs : (assignEach (e :: es) X.env).map (·.2) = assign e X.env :: (assignEach es X.env).map (·.2) := by rfl) : PGs X (e :: es) (gCons t u) := by
  intro pins s σ H vs us Q I r h
  obtain ⟨v, vr, e1, h⟩ := h
  subst e1
  cases r with
  | cons r rr =>
    rw [hs]
    refine assignInOrder_cons (thn (h1 pins s σ H _ _ _ I r h) fun _ s1 ⟨σ1, H1, I1, q1⟩ => ?_)
    exact h2 pins s1 σ1 H1 _ _ Q I1 rr q1
def gTup (K : PySem.W.Frag) (n : Nat) (t : TGs) : TG := fun v σ H Q => ∃ a xs, v = .ref a ∧ SqT K H a xs ∧ xs.length = n ∧ t xs σ H Q
theorem pg_tup {es : List Expr} {k : Nat} {t : TGs} {n : Nat} (hc : X.calm = true) (h : PGs X es t)
    (hn : (assignEach es X.env).length = n := by rfl) (hst : (assignEach es X.env).findIdx? (·.1) = none := by rfl) : PG X (.Tuple es k pos) (gTup X.K n t) := by
  intro pins s σ H v u Q I r hw
  obtain ⟨a, xs, e1, hq, hl, hw⟩ := hw
  subst e1
  cases r
  obtain ⟨its, rv, ht, hz⟩ := I.tuple hq
  refine assign_Tuple_tuple (I.ok.hd hc) ht (by simp [hn, ← hl, rv.length]) hst fun h' hx => ?_
  have I1 : Inv X pins σ H { s with heap := h' } := I.kept (t' := s.toks) fun b o e => hx b o (Nat.ne_of_lt (Heap.lt_size e)) e
  exact h pins _ σ H xs _ Q I1 (by simpa using rv) hw
def gSub (to ti : TE) (t : TSet) : TG := fun v σ H Q => to σ H fun o H1 => ti σ H1 fun i H2 => t o i v H2 fun H3 => Q σ H3
theorem pg_sub {o i : Expr} {to ti : TE} {t : TSet} (ho : PE X o to) (hi : PE X i ti) (hs : PSet X t)
    (ha : ∀ v, assign (.Subscript o i pos) X.env v = (do
      let ov ← holding [v] (eval o X.env)
      let iv ← holding [v, ov] (eval i X.env)
      standAt pos
      holding [v, ov, iv] (setItem ov iv v)
      release [v, ov, iv] []) := by intro _; rfl) : PG X (.Subscript o i pos) (gSub to ti t) := by
  intro pins s σ H v u Q I r h
  rw [ha]
  refine wpAny_bind (wpAny_holding (thn (ho pins s σ H _ I h) fun ov s1 ⟨x, H1, I1, r1, q1⟩ => ?_))
  refine wpAny_bind (wpAny_holding (thn (hi pins s1 σ H1 _ I1 q1) fun iv s2 ⟨y, H2, I2, r2, q2⟩ => ?_))
  refine wpAny_bind (wpAny_standAt (wpAny_bind (wpAny_holding (thn (hs pins s2 σ H2 x y v ov iv u _ I2 r1 r2 r q2) fun _ s3 ⟨H3, I3, q3⟩ => ?_))))
  exact wpAny_release ⟨σ, H3, I3, q3⟩
def tAsg (te : TE) (g : TG) : TS := fun D σ H => te σ H fun x H1 => g x σ H1 D.nx
theorem ps_asg {tg e : Expr} {te : TE} {g : TG} (he : PE X e te) (hg : PG X tg g) (hs : swapsWithSole [tg] e pos.line X.env = pure false := by rfl) (hw : swappedStores [tg] e X.env = pure none := by rfl)
    (h1 : (assignEach [tg] X.env).map (·.2) = [assign tg X.env] := by rfl) : PS X (.Assign [tg] e pos) (tAsg te g) := by
  intro pins s σ H D I h
  refine wpAny_Assign_stores (thn (he pins s σ H _ I h) fun v s1 ⟨x, H1, I1, r1, q1⟩ => ?_) hs hw
  rw [h1]
  exact thn (hg pins s1 σ H1 x v _ I1 r1 q1) fun _ s2 q => q
theorem ps_set {i : Nat} {x : Str} {e : Expr} {te : TE} {pos' : Pos} (hN : X.N.Nodup) (hi : X.N[i]? = some x) (hx : Loc X.env.scope x) (he : PE X e te) (hs : swapsWith e (some (.Name x pos')) pos.line X.env = pure false := by rfl) (hf : X.fn x = true ∨ X.env.scope.names.lookup x = some .local := by first | exact .inl rfl | exact .inr rfl | assumption) :
    PS X (.Assign [.Name x pos'] e pos) (tAsg te (gName i)) := by
  intro pins s σ H D I h
  refine wpAny_Assign_Name (thn (he pins s σ H _ I h) fun v s1 ⟨y, H1, I1, r1, q1⟩ => ?_) hs
  exact store_ok I1 hN hi hx r1 (fun s2 I2 => ⟨_, H1, I2, q1⟩) hf
def tAug (i : Nat) (te : TE) (ti : TIp) : TS := fun D σ H => ∃ x, σ[i]? = some (some x) ∧ te σ H fun y H1 => ti x y H1 fun z H2 => D.nx (σ.set i (some z)) H2
theorem ps_aug {i : Nat} {x : Str} {e : Expr} {te : TE} {op : Operator} {ti : TIp} {pos' : Pos} (hN : X.N.Nodup) (hi : X.N[i]? = some x) (hx : Loc X.env.scope x) (he : PE X e te) (ho : PIp X op ti) (hf : X.fn x = true ∨ X.env.scope.names.lookup x = some .local := by first | exact .inl rfl | exact .inr rfl | assumption) :
    PS X (.AugAssign (.Name x pos') op e pos) (tAug i te ti) := by
  intro pins s σ H D I h
  obtain ⟨v, e1, h⟩ := h
  obtain ⟨m, hn, hl⟩ := I.loc
  have vis : Vis X.env.scope x := by rcases hx with k | k; exact .inl k; exact .inr (.inl k)
  obtain ⟨u, r, l⟩ := hl i x v hi e1 vis
  refine wpAny_AugAssign_Name ?_
  have go : wpAny (model X.prog X.w) X.A (eval e X.env) (fun w s₂ => wpAny (model X.prog X.w) X.A (inplaceOp op u w) (fun r s₃ => wpAny (model X.prog X.w) X.A (storeName X.env x r) (fun _ => SP X pins D .next) X.xe s₃) X.xe s₂) X.xe s := by
    refine thn (he pins s σ H _ I h) fun w s1 ⟨y, H1, I1, r1, q1⟩ => ?_
    refine thn (ho pins s1 σ H1 v y u w _ I1 r r1 q1) fun z s2 ⟨zv, H2, I2, r2, q2⟩ => ?_
    exact store_ok I2 hN hi hx r2 (fun s3 I3 => ⟨_, H2, I3, q2⟩) hf
  rcases l with ⟨hk, hm⟩ | ⟨hk, c, hc, hcell⟩
  · exact wpAny_loadName_local I.ok.kind hk hn hm go
  · rcases hk with hk | hk
    · exact wpAny_loadName_cell I.ok.kind hk hc hcell go
    · rcases hx with k | k
      · have : X.env.scope.names.lookup x = some .free := hk
        rw [k] at this; cases this
      · have : X.env.scope.names.lookup x = some .free := hk
        rw [k] at this; cases this
def tAugS (to ti te : TE) (tget : V → V → Hp → VK → Prop) (tip : TIp) (tset : TSet) : TS := fun D σ H => to σ H fun o H1 => ti σ H1 fun i H2 => tget o i H2 fun x H3 => te σ H3 fun y H4 => tip x y H4 fun z H5 => tset o i z H5 fun H6 => D.nx σ H6
def PGet (X : Cx) (t : V → V → Hp → VK → Prop) : Prop :=
  ∀ (pins : List (Addr × Obj)) (s : Shared) (σ : St) (H : Hp) (o i : V) (ov iv : Value) (Q : VK), Inv X pins σ H s → RelV o ov → RelV i iv → t o i H Q →
    wpAny (model X.prog X.w) X.A (getItem ov iv) (EP X pins σ Q) X.xe s
theorem ps_augS {o i e : Expr} {to ti te : TE} {tget : V → V → Hp → VK → Prop} {tip : TIp} {tset : TSet} {op : Operator} {tpos : Pos} (ho : PE X o to) (hi : PE X i ti) (hg : PGet X tget) (he : PE X e te) (hp : PIp X op tip) (hs : PSet X tset)
    (ha : ∀ ov iv new, augStore i ov iv new = (do holding [new, ov, iv] (setItem ov iv new); release [new, ov, iv] []; pure .next) := by intros; rfl) : PS X (.AugAssign (.Subscript o i tpos) op e pos) (tAugS to ti te tget tip tset) := by
  intro pins s σ H D I h
  refine wpAny_AugAssign_SubscriptAny (thn (ho pins s σ H _ I h) fun ov s1 ⟨x1, H1, I1, r1, q1⟩ => ?_) ha
  refine thn (hi pins s1 σ H1 _ I1 q1) fun iv s2 ⟨x2, H2, I2, r2, q2⟩ => ?_
  refine thn (hg pins s2 σ H2 x1 x2 ov iv _ I2 r1 r2 q2) fun old s3 ⟨x3, H3, I3, r3, q3⟩ => ?_
  refine thn (he pins s3 σ H3 _ I3 q3) fun v s4 ⟨x4, H4, I4, r4, q4⟩ => ?_
  refine thn (hp pins s4 σ H4 x3 x4 old v _ I4 r3 r4 q4) fun new s5 ⟨x5, H5, I5, r5, q5⟩ => ?_
  exact thn (hs pins s5 σ H5 x1 x2 x5 ov iv new _ I5 r1 r2 r5 q5) fun _ s6 ⟨H6, I6, q6⟩ => ⟨σ, H6, I6, q6⟩
def ipI (f : Int → Int → Int) : TIp := fun x y H Q => ∃ i j, x = .int i ∧ y = .int j ∧ Q (.int (f i j)) H
theorem ip_add : PIp X .Add (ipI fun i j => i + j) := by
  intro pins s σ H x y v u Q I r1 r2 h
  obtain ⟨i, j, e1, e2, q⟩ := h
  subst e1; subst e2
  obtain ⟨t, rfl⟩ := r1
  obtain ⟨t', rfl⟩ := r2
  exact iadd_int ⟨.int _, H, I.tok _, ⟨_, rfl⟩, q⟩
end
section
variable {X : Cx} {pos : Pos}
end
structure It where
  go : Nat → Hp → Prop
  yld : Nat → Hp → V → Hp → Prop
  stop : Nat → Hp → Prop
def FpOk (X : Cx) (pins : List (Addr × Obj)) (H : Hp) (b : Addr) : Prop :=
  H b = none ∧ b ≠ X.env.locals ∧ b ∉ X.fs ∧ (b ∈ X.ex ∨ X.s₀.heap.objs.size ≤ b) ∧ (∀ x c, X.env.cells.lookup x = some c → c ≠ b) ∧ ∀ p ∈ X.pn ++ pins, p.1 ≠ b
theorem Inv.fpOk {X : Cx} {pins : List (Addr × Obj)} {σ : St} {H H' : Hp} {s : Shared} {b : Addr} (I : Inv X pins σ H s) (hb : s.heap.objs.size ≤ b) (hn : H' b = none) : FpOk X pins H' b := by
  refine ⟨hn, Nat.ne_of_gt (Nat.lt_of_lt_of_le I.lt hb), I.nofs hb, .inr (Nat.le_trans I.sz hb), fun x c e z => ?_, fun p hp z => ?_⟩
  · obtain ⟨v, q⟩ := I.cell x c e
    exact absurd (Nat.lt_of_lt_of_le q.lt (by rw [z]; exact hb)) (Nat.lt_irrefl _)
  · exact absurd (Nat.lt_of_lt_of_le (Heap.lt_size (I.pin p hp).1) (by rw [z]; exact hb)) (Nat.lt_irrefl _)
structure Turn (P : Program) (w : World) (K : PySem.W.Frag) (tg : Expr) (J : It) (fp : List Addr) (it : Addr) (tn : Nat → Heap → Prop) : Prop where
  mem : it ∈ fp
  obj : ∀ i h, tn i h → ∀ b ∈ fp, ∃ o, h.get? b = some o ∧ ∀ v, o.data ≠ .cell v
  keep : ∀ i h h', tn i h → (∀ b ∈ fp, ∀ o, h.get? b = some o → h'.get? b = some o) → tn i h'
  item : ∀ (X : Cx), X.prog = P → X.w = w → X.K = K → X.calm = true → ∀ (i : Nat) (pins : List (Addr × Obj)) (s : Shared) (σ : St) (H : Hp) (E : Value → Shared → Prop), Inv X pins σ H s → (∀ b ∈ fp, FpOk X pins H b) → tn i s.heap → J.go i H →
    wpAny (model P w) X.A (pyNext (.ref it)) (fun r s1 => ∃ u, r = some u ∧
      wpAny (model P w) X.A (letOwnedTupleGo tg (.ref it) u) (fun _ s2 => ∃ x H', Inv X pins σ H' s2 ∧ RelV x u ∧ J.yld i H x H' ∧ tn (i + 1) s2.heap ∧ ∀ b ∈ fp, H' b = none) E s1) E s
  done : ∀ (X : Cx), X.prog = P → X.w = w → X.K = K → X.calm = true → ∀ (i : Nat) (pins : List (Addr × Obj)) (s : Shared) (σ : St) (H : Hp) (E : Value → Shared → Prop), Inv X pins σ H s → (∀ b ∈ fp, FpOk X pins H b) → tn i s.heap → J.stop i H →
    wpAny (model P w) X.A (pyNext (.ref it)) (fun r s1 => r = none ∧ Inv X pins σ H s1) E s
  self : ∀ (A : Around) (i : Nat) (s : Shared) (Q : Value → Shared → Prop) (E : Value → Shared → Prop), tn i s.heap → Q (.ref it) s → wpAny (model P w) A (pyIter (.ref it)) Q E s
abbrev TI := St → Hp → (It → Hp → Prop) → Prop
def PIE (X : Cx) (pins : List (Addr × Obj)) (σ : St) (tg : Expr) (R : It → Hp → Prop) (itv : Value) (s2 : Shared) : Prop :=
  ∃ (it : Addr) (fp : List Addr) (tn : Nat → Heap → Prop) (J : It) (H' : Hp), itv = .ref it ∧ Inv X pins σ H' s2 ∧ Turn X.prog X.w X.K tg J fp it tn ∧ tn 0 s2.heap ∧ (∀ b ∈ fp, FpOk X pins H' b) ∧ R J H'
def PI (X : Cx) (tg iter : Expr) (wi : TI) : Prop :=
  ∀ (pins : List (Addr × Obj)) (s : Shared) (σ : St) (H : Hp) (R : It → Hp → Prop), Inv X pins σ H s → wi σ H R →
    wpAny (model X.prog X.w) X.A (eval iter X.env) (fun v s1 => wpAny (model X.prog X.w) X.A (pyIter v) (PIE X pins σ tg R) X.xe s1) X.xe s
theorem go_of {M : Model} {A : Around} {E : Value → Shared → Prop} {s : Shared} {tg : Expr} {it : Addr} {u : Value} {o : Obj} {n : String} {vs : Array Value} {Q : Unit → Shared → Prop} (ho : s.heap.get? it = some o) (hc : o.cls = .type n) (hd : o.data = .fields vs)
    (hn : ["enumerate", "zip", "dict_itemiterator", "dict_reverseitemiterator", "odict_iterator", "itertools.zip_longest", "itertools.pairwise"].contains n = false) (hQ : Q () s) : wpAny M A (letOwnedTupleGo tg (.ref it) u) Q E s := by
  unfold letOwnedTupleGo
  cases tg <;> first
    | exact wpAny_pure hQ
    | (cases u <;> first
        | exact wpAny_pure hQ
        | (refine wpAny_bind (wpAny_load ho ?_)
           rw [hc, hd]
           show wpAny M A (if (["enumerate", "zip", "dict_itemiterator", "dict_reverseitemiterator", "odict_iterator", "itertools.zip_longest", "itertools.pairwise"].contains n && vs[0]? == some (rawInt _)) = true then _ else _) Q E s
           rw [if_neg (by intro h; rw [hn, Bool.false_and] at h; cases h)]
           exact wpAny_pure hQ))
def Itl (K : PySem.W.Frag) (a : Addr) : It :=
  ⟨fun i H => ∃ xs x, SqL K H a xs ∧ xs[i]? = some x, fun i H x H' => H' = H ∧ ∀ xs, SqL K H a xs → xs[i]? = some x, fun i H => ∃ xs, SqL K H a xs ∧ xs.length ≤ i⟩
def Itt (K : PySem.W.Frag) (a : Addr) : It :=
  ⟨fun i H => ∃ xs x, SqT K H a xs ∧ xs[i]? = some x, fun i H x H' => H' = H ∧ ∀ xs, SqT K H a xs → xs[i]? = some x, fun i H => ∃ xs, SqT K H a xs ∧ xs.length ≤ i⟩
def Itr (lo : Int) (n : Nat) : It := ⟨fun i _ => i < n, fun i H x H' => H' = H ∧ x = .int (lo + i), fun i _ => n ≤ i⟩
theorem turn_list {P : Program} {w : World} {K : PySem.W.Frag} {tg : Expr} (a it : Addr) : Turn P w K tg (Itl K a) [it] it (fun i h => h.IsListIter it a i) where
  mem := by simp
  obj := fun i h st b hb => by
    have e : b = it := by simpa using hb
    subst e
    obtain ⟨o, e, c, d⟩ := st
    exact ⟨o, e, fun v z => by rw [d] at z; cases z⟩
  keep := fun i h h' st k => st.at fun o e => k it (by simp) o e
  item := by
    intro X hP hw hK hc i pins s σ H E I hf st hg
    subst hP hw hK
    obtain ⟨xs, x, hq, hx⟩ := hg
    obtain ⟨its, rv, p, hz⟩ := I.list hq
    obtain ⟨u, hu, ru⟩ := rv.get hx
    obtain ⟨f0, f1, f2, f3, f4, f5⟩ := hf it (by simp)
    refine wpAny_pyNext_list_item st p.isList (x := u) (by simpa using hu) fun h' st' sb => ?_
    have I1 : Inv X pins σ H { s with heap := h' } := I.turned (t' := s.toks) (fun b o hb e => (sb.2 b hb).trans e) f0 f1 f3 f4 f5
    obtain ⟨o, e, c, d⟩ := id st'
    exact ⟨u, rfl, go_of (s := { s with heap := h' }) e c d (by decide) ⟨x, H, I1, ru, ⟨rfl, fun ys hy => by rw [I.list_inj hy hq]; exact hx⟩, st', fun b hb => (hf b hb).1⟩⟩
  done := by
    intro X hP hw hK hc i pins s σ H E I hf st hg
    subst hP hw hK
    obtain ⟨xs, hq, hx⟩ := hg
    obtain ⟨its, rv, p, hz⟩ := I.list hq
    obtain ⟨f0, f1, f2, f3, f4, f5⟩ := hf it (by simp)
    have hl := rv.length
    exact wpAny_pyNext_list_end (I.ok.hd hc) st p.isList (by simp; omega) fun h' eb => ⟨rfl, I.turned (t' := s.toks) (fun b o hb e => eb b o hb e) f0 f1 f3 f4 f5⟩
  self := fun _ _ _ _ _ st h => wpAny_pyIter_listiter st h
theorem turn_tuple {P : Program} {w : World} {K : PySem.W.Frag} {tg : Expr} (a it : Addr) : Turn P w K tg (Itt K a) [it] it (fun i h => h.IsTupleIter it a i) where
  mem := by simp
  obj := fun i h st b hb => by
    have e : b = it := by simpa using hb
    subst e
    obtain ⟨o, e, c, d⟩ := st
    exact ⟨o, e, fun v z => by rw [d] at z; cases z⟩
  keep := fun i h h' st k => st.at fun o e => k it (by simp) o e
  item := by
    intro X hP hw hK hc i pins s σ H E I hf st hg
    subst hP hw hK
    obtain ⟨xs, x, hq, hx⟩ := hg
    obtain ⟨its, rv, p, hz⟩ := I.tuple hq
    obtain ⟨u, hu, ru⟩ := rv.get hx
    obtain ⟨f0, f1, f2, f3, f4, f5⟩ := hf it (by simp)
    refine wpAny_pyNext_tuple_item st (show s.heap.IsTuple a its.toArray from p) (x := u) (by simpa using hu) fun h' st' sb => ?_
    have I1 : Inv X pins σ H { s with heap := h' } := I.turned (t' := s.toks) (fun b o hb e => (sb.2 b hb).trans e) f0 f1 f3 f4 f5
    obtain ⟨o, e, c, d⟩ := id st'
    exact ⟨u, rfl, go_of (s := { s with heap := h' }) e c d (by decide) ⟨x, H, I1, ru, ⟨rfl, fun ys hy => by rw [I.tuple_inj hy hq]; exact hx⟩, st', fun b hb => (hf b hb).1⟩⟩
  done := by
    intro X hP hw hK hc i pins s σ H E I hf st hg
    subst hP hw hK
    obtain ⟨xs, hq, hx⟩ := hg
    obtain ⟨its, rv, p, hz⟩ := I.tuple hq
    obtain ⟨f0, f1, f2, f3, f4, f5⟩ := hf it (by simp)
    have hl := rv.length
    exact wpAny_pyNext_tuple_end (I.ok.hd hc) st (show s.heap.IsTuple a its.toArray from p) (by simp; omega) fun h' eb => ⟨rfl, I.turned (t' := s.toks) (fun b o hb e => eb b o hb e) f0 f1 f3 f4 f5⟩
  self := fun _ _ _ _ _ st h => wpAny_pyIter_tupleiter st h
theorem turn_range {P : Program} {w : World} {K : PySem.W.Frag} {tg : Expr} (it : Addr) (lo : Int) (n : Nat) : Turn P w K tg (Itr lo n) [it] it (fun i h => IsRangeIter h it (lo + (i : Nat) * 1) ((n : Int) - (i : Nat)) 1) where
  mem := by simp
  obj := fun i h st b hb => by
    have e : b = it := by simpa using hb
    subst e
    exact ⟨_, st, fun v z => by
      have z' : Data.fields _ = Data.cell v := z
      cases z'⟩
  keep := fun i h h' st k => k it (by simp) _ st
  item := by
    intro X hP hw hK hc i pins s σ H E I hf st hg
    subst hP hw hK
    obtain ⟨f0, f1, f2, f3, f4, f5⟩ := hf it (by simp)
    have W := Walks.range (prog := X.prog) (w := X.w) (I.ok.hd hc) it lo 1 n
    refine W.item i s _ _ hg st fun v h' tk hv st' kk => ?_
    obtain ⟨t, rfl⟩ := hv
    have I1 : Inv X pins σ H { s with heap := h', toks := tk } := I.turned (fun b o hb e => kk b o (by simpa using hb) e) f0 f1 f3 f4 f5
    refine ⟨_, rfl, go_of (s := { s with heap := h', toks := tk }) (n := "range_iterator") st' rfl rfl (by decide) ⟨.int (lo + i), H, I1, ⟨t, ?_⟩, ⟨rfl, rfl⟩, st', fun b hb => (hf b hb).1⟩⟩
    rw [Int.mul_one]
  done := by
    intro X hP hw hK hc i pins s σ H E I hf st hg
    subst hP hw hK
    obtain ⟨f0, f1, f2, f3, f4, f5⟩ := hf it (by simp)
    exact wpAny_pyNext_range_end (I.ok.hd hc) st (by have : n ≤ i := hg; omega) fun h' eb => ⟨rfl, I.turned (t' := s.toks) (fun b o hb e => eb b o hb e) f0 f1 f3 f4 f5⟩
  self := fun _ _ _ _ _ st h => wpAny_pyIter_rangeiter st h
end L2
namespace L2
open PySem PySem.Spec PyProof.Rows
section
variable {X : Cx} {tg : Expr}
def iList (K : PySem.W.Frag) (tl : TE) : TI := fun σ H R => tl σ H fun x H1 => ∃ a, x = .ref a ∧ (∃ xs, SqL K H1 a xs) ∧ R (Itl K a) H1
def iTup (K : PySem.W.Frag) (tl : TE) : TI := fun σ H R => tl σ H fun x H1 => ∃ a, x = .ref a ∧ (∃ xs, SqT K H1 a xs) ∧ R (Itt K a) H1
theorem pi_list {l : Expr} {tl : TE} (hl : PE X l tl) : PI X tg l (iList X.K tl) := by
  intro pins s σ H R I h
  refine thn (hl pins s σ H _ I h) fun v s1 ⟨x, H1, I1, r1, q1⟩ => ?_
  obtain ⟨a, e, ⟨xs, hq⟩, q⟩ := q1
  subst e
  cases r1
  obtain ⟨its, rv, p, hz⟩ := I1.list hq
  refine wpAny_pyIter_list p.isList ?_
  refine ⟨s1.heap.objs.size, [s1.heap.objs.size], _, _, H1, rfl, I1.kept (t' := s1.toks) fun b o e => Heap.get?_push_of_some _ e, turn_list a _, ⟨_, Heap.get?_push_size _ rfl, rfl, rfl⟩, fun b hb => ?_, q⟩
  have e : b = s1.heap.objs.size := by simpa using hb
  subst e
  exact I1.fpOk (Nat.le_refl _) (I1.hok.fresh (Nat.le_refl _))
theorem pi_tup {l : Expr} {tl : TE} (hl : PE X l tl) : PI X tg l (iTup X.K tl) := by
  intro pins s σ H R I h
  refine thn (hl pins s σ H _ I h) fun v s1 ⟨x, H1, I1, r1, q1⟩ => ?_
  obtain ⟨a, e, ⟨xs, hq⟩, q⟩ := q1
  subst e
  cases r1
  obtain ⟨its, rv, p, hz⟩ := I1.tuple hq
  refine wpAny_pyIter_tuple (show s1.heap.IsTuple a its.toArray from p) ?_
  refine ⟨s1.heap.objs.size, [s1.heap.objs.size], _, _, H1, rfl, I1.kept (t' := s1.toks) fun b o e => Heap.get?_push_of_some _ e, turn_tuple a _, ⟨_, Heap.get?_push_size _ rfl, rfl, rfl⟩, fun b hb => ?_, q⟩
  have e : b = s1.heap.objs.size := by simpa using hb
  subst e
  exact I1.fpOk (Nat.le_refl _) (I1.hok.fresh (Nat.le_refl _))
theorem range_it {pins : List (Addr × Obj)} {σ : St} {H : Hp} {s : Shared} {R : It → Hp → Prop} {E : Value → Shared → Prop} {lo hi : Int} {t u v : Tok} {tk : Nat} (I : Inv X pins σ H s) (h1 : -(2 ^ 62) ≤ lo) (h2 : lo < 2 ^ 62) (h3 : -(2 ^ 62) ≤ hi) (h4 : hi < 2 ^ 62)
    (q : R (Itr lo (hi - lo).toNat) H) : wpAny (model X.prog X.w) X.A (pyIter (.ref s.heap.objs.size)) (PIE X pins σ tg R) E { s with heap := s.heap.push { cls := .type "range", data := .fields #[.int lo t, .int hi u, .int 1 v] }, toks := tk } := by
  refine wpAny_pyIter_range (IsRange.new ..) (small_one h1 h2 h3 h4) ?_
  have I1 : Inv X pins σ H { s with heap := s.heap.push { cls := .type "range", data := .fields #[.int lo t, .int hi u, .int 1 v] }, toks := tk } := I.kept fun b o e => Heap.get?_push_of_some _ e
  refine ⟨(s.heap.push { cls := .type "range", data := .fields #[.int lo t, .int hi u, .int 1 v] }).objs.size, [(s.heap.push { cls := .type "range", data := .fields #[.int lo t, .int hi u, .int 1 v] }).objs.size], _, _, H, rfl,
    I1.kept (t' := tk) fun b o e => Heap.get?_push_of_some _ e, turn_range _ lo (hi - lo).toNat, ?_, fun b hb => ?_, q⟩
  · have e1 : lo + ((0 : Nat) : Int) * 1 = lo := by simp
    have e2 : (((hi - lo).toNat : Nat) : Int) - ((0 : Nat) : Int) = Builtin.Range.rangeSize lo hi 1 := by rw [rangeSize_one]; split <;> omega
    show IsRangeIter _ _ (lo + ((0 : Nat) : Int) * 1) ((((hi - lo).toNat : Nat) : Int) - ((0 : Nat) : Int)) 1
    rw [e1, e2]
    exact Heap.get?_push_size _ rfl
  · have e : b = (s.heap.push { cls := .type "range", data := .fields #[.int lo t, .int hi u, .int 1 v] }).objs.size := by simpa using hb
    subst e
    exact I1.fpOk (Nat.le_refl _) (I1.hok.fresh (Nat.le_refl _))
def iRng1 (ta : TA) : TI := fun σ H R => ta σ H fun vs H1 => ∃ j : Int, vs = [.int j] ∧ -(2 ^ 62) ≤ j ∧ j < 2 ^ 62 ∧ R (Itr 0 j.toNat) H1
def iRng2 (ta : TA) : TI := fun σ H R => ta σ H fun vs H1 => ∃ i j : Int, vs = [.int i, .int j] ∧ (-(2 ^ 62) ≤ i ∧ i < 2 ^ 62 ∧ -(2 ^ 62) ≤ j ∧ j < 2 ^ 62) ∧ R (Itr i (j - i).toNat) H1
theorem pi_range1 {a : Expr} {ta : TA} {p pos : Pos} (hg : Gl X "range") (hm : X.mg "range" = none) (ha : PA X [a] ta) (hs : starEach [a] X.env = [(false, eval a X.env)] := by rfl) : PI X tg (.Call (.Name "range" p) [a] [] pos) (iRng1 ta) := by
  intro pins s σ H R I h
  refine Call_ (ld_blt I hg hm boot_range (PyProof.Rows.callWith_type1 (thn (ha pos pins s σ H _ I h) fun us s1 ⟨vs, H1, I1, r1, q1⟩ => ?_) hs rfl))
  obtain ⟨j, e, q1, q2, q⟩ := q1
  subst e
  cases r1 with
  | cons r rr =>
    cases rr
    obtain ⟨t, rfl⟩ := r
    exact call_range_1 (range_it I1 (by omega) (by omega) q1 q2 (by simpa using q))
theorem pi_range2 {a b : Expr} {ta : TA} {p pos : Pos} (hg : Gl X "range") (hm : X.mg "range" = none) (ha : PA X [a, b] ta) (hs : starEach [a, b] X.env = [(false, eval a X.env), (false, eval b X.env)] := by rfl) (hs2 : starEach [b] X.env = [(false, eval b X.env)] := by rfl) :
    PI X tg (.Call (.Name "range" p) [a, b] [] pos) (iRng2 ta) := by
  intro pins s σ H R I h
  refine Call_ (ld_blt I hg hm boot_range (PyProof.Rows.callWith_type1 (thn (ha pos pins s σ H _ I h) fun us s1 ⟨vs, H1, I1, r1, q1⟩ => ?_) (by rw [hs, hs2]) (by rw [hs2]; rfl)))
  obtain ⟨i, j, e, ⟨q1, q2, q3, q4⟩, q⟩ := q1
  subst e
  cases r1 with
  | cons r rr =>
    cases rr with
    | cons r' rr =>
      cases rr
      obtain ⟨t, rfl⟩ := r
      obtain ⟨t', rfl⟩ := r'
      exact call_range_2 (range_it I1 q1 q2 q3 q4 q)
def tFor (wi : TI) (g : TG) (tb : TS) : TS := fun D σ H => wi σ H fun J H1 => ∃ W : Nat → Nat → St → Hp → Prop, (∃ m, W 0 m σ H1) ∧ ∀ i m σ H, W i m σ H →
  (J.stop i H ∧ D.nx σ H) ∨ (J.go i H ∧ ∃ N : St → Hp → Prop, (∀ σ' H', N σ' H' → ∃ m', m' < m ∧ W (i + 1) m' σ' H') ∧ ∀ x H', J.yld i H x H' → g x σ H' fun σ2 H2 => tb { D with nx := N, ct := N, bk := D.nx } σ2 H2)
def pinsAt (fp : List Addr) (h : Heap) : List (Addr × Obj) := fp.filterMap fun b => (h.get? b).map fun o => (b, o)
theorem mem_pinsAt {fp : List Addr} {h : Heap} {b : Addr} {o : Obj} (hb : b ∈ fp) (e : h.get? b = some o) : (b, o) ∈ pinsAt fp h := List.mem_filterMap.mpr ⟨b, hb, by rw [e]; rfl⟩
theorem of_pinsAt {fp : List Addr} {h : Heap} {p : Addr × Obj} (hp : p ∈ pinsAt fp h) : p.1 ∈ fp ∧ h.get? p.1 = some p.2 := by
  obtain ⟨b, hb, e⟩ := List.mem_filterMap.mp hp
  cases q : h.get? b with
  | none => rw [q] at e; cases e
  | some o =>
    rw [q] at e
    have e' : (b, o) = p := Option.some.inj e
    subst e'
    exact ⟨hb, q⟩
theorem Inv.pinned {pins : List (Addr × Obj)} {σ : St} {H : Hp} {s : Shared} {fp : List Addr} (I : Inv X pins σ H s) (hf : ∀ b ∈ fp, FpOk X pins H b) (ho : ∀ b ∈ fp, ∃ o, s.heap.get? b = some o ∧ ∀ v, o.data ≠ .cell v) : Inv X (pins ++ pinsAt fp s.heap) σ H s :=
  I.pins_of fun p hp => (List.mem_append.mp hp).elim (fun z => I.pin p (List.mem_append_right _ z)) fun z => by
    obtain ⟨hb, e⟩ := of_pinsAt z
    obtain ⟨f0, f1, f2, _⟩ := hf p.1 hb
    obtain ⟨o, e', d⟩ := ho p.1 hb
    rw [e] at e'; cases e'
    exact ⟨e, f0, f1, f2, d⟩
theorem Inv.unpinned {pins pl : List (Addr × Obj)} {σ : St} {H : Hp} {s : Shared} (I : Inv X (pins ++ pl) σ H s) : Inv X pins σ H s := I.pins_of fun p hp => I.pin p (List.mem_append_right _ (List.mem_append_left _ hp))
theorem ps_for {iter : Expr} {body : List Stmt} {wi : TI} {g : TG} {tb : TS} {pos : Pos} (hp : PassesOwn (model X.prog X.w) X.A X.env X.xe) (hc : X.calm = true) (hi : PI X tg iter wi) (hg : PG X tg g) (hb : PSs X body tb)
    (hs : ∀ x, foldedSetIterable iter X.env x = pure x := by intro _; rfl) : PS X (.For tg iter body [] pos) (tFor wi g tb) := by
  intro pins s σ H D I h
  refine wpAny_For (thn (hi pins s σ H _ I h) fun v s1 h1 => thn h1 fun itv s2 h2 => ?_) hs
  obtain ⟨it, fp, tn, J, H2, e, I2, T, st2, f2, W, ⟨m0, w0⟩, turn⟩ := h2
  subst e
  -- what stays true of the iterator's objects through the loop
  have stat : ∀ {H' : Hp}, (∀ b ∈ fp, H' b = none) → ∀ b ∈ fp, FpOk X pins H' b := fun hn b hb => ⟨hn b hb, (f2 b hb).2⟩
  refine codeAny_forLoop_any (fun n s' => ∃ i σ' H', Inv X pins σ' H' s' ∧ tn i s'.heap ∧ (∀ b ∈ fp, H' b = none) ∧ W i n σ' H') ?_ m0 ⟨0, σ, H2, I2, st2, fun b hb => (f2 b hb).1, w0⟩
  rintro n s3 ⟨i, σ3, H3, I3, st3, fr3, w3⟩
  rcases turn i n σ3 H3 w3 with ⟨stop, qn⟩ | ⟨go, N, hN, step⟩
  · refine wpAny_passesOwn hp (thn (T.done X rfl rfl rfl hc i pins s3 σ3 H3 X.xe I3 (stat fr3) st3 stop) fun r s4 ⟨hr, I4⟩ => ?_)
    subst hr
    exact wpAny_execs_nil ⟨σ3, H3, I4, qn⟩
  · refine wpAny_passesOwn hp (thn (T.item X rfl rfl rfl hc i pins s3 σ3 H3 X.xe I3 (stat fr3) st3 go) fun r s4 ⟨u, hr, h4⟩ => ?_)
    subst hr
    refine wpAny_passesOwn hp (thn h4 fun _ s5 ⟨x, H5, I5, r5, y5, st5, fr5⟩ => ?_)
    have I5' := I5.pinned (stat fr5) (T.obj _ _ st5)
    refine wpAny_passesOwn hp (thn (hg _ s5 σ3 H5 x u _ I5' r5 (step x H5 y5)) fun _ s6 ⟨σ6, H6, I6, q6⟩ => ?_)
    refine wpAny_passesOwn hp (thn (hb _ s6 σ6 H6 _ I6 q6) fun f s7 q7 => ?_)
    have again : ∀ {σ7 : St} {H7 : Hp}, Inv X (pins ++ pinsAt fp s5.heap) σ7 H7 s7 → N σ7 H7 → ∃ m, m < n ∧ ∃ i σ' H', Inv X pins σ' H' s7 ∧ tn i s7.heap ∧ (∀ b ∈ fp, H' b = none) ∧ W i m σ' H' := fun {σ7 H7} I7 n7 => by
      obtain ⟨m', hm, w7⟩ := hN σ7 H7 n7
      refine ⟨m', hm, i + 1, σ7, H7, I7.unpinned, T.keep _ _ _ st5 fun b hb o e => (I7.pin (b, o) (List.mem_append_right _ (List.mem_append_right _ (mem_pinsAt hb e)))).1, fun b hb => ?_, w7⟩
      obtain ⟨o, e, d⟩ := T.obj _ _ st5 b hb
      exact (I7.pin (b, o) (List.mem_append_right _ (List.mem_append_right _ (mem_pinsAt hb e)))).2.1
    cases f with
    | next => obtain ⟨σ7, H7, I7, n7⟩ := q7; exact again I7 n7
    | cont => obtain ⟨σ7, H7, I7, n7⟩ := q7; exact again I7 n7
    | brk => obtain ⟨σ7, H7, I7, q7⟩ := q7; exact ⟨σ7, H7, I7.unpinned, q7⟩
    | ret v => obtain ⟨x7, σ7, H7, I7, r7, q7⟩ := q7; exact ⟨x7, σ7, H7, I7.unpinned, r7, q7⟩
end
theorem for_list {K : PySem.W.Frag} {a : Addr} {xs : List V} {g : TG} {tb : TS} {D : Ends} {σ : St} {H : Hp} (Pv : Nat → St → Hp → Prop) (h0 : Pv 0 σ H) (hl : ∀ i σ H, i ≤ xs.length → Pv i σ H → SqL K H a xs)
    (hs : ∀ i x σ H, xs[i]? = some x → Pv i σ H → g x σ H fun σ2 H2 => tb { D with nx := Pv (i + 1), ct := Pv (i + 1), bk := D.nx } σ2 H2) (hd : ∀ σ H, Pv xs.length σ H → D.nx σ H) :
    ∃ W : Nat → Nat → St → Hp → Prop, (∃ m, W 0 m σ H) ∧ ∀ i m σ H, W i m σ H →
      ((Itl K a).stop i H ∧ D.nx σ H) ∨ ((Itl K a).go i H ∧ ∃ N : St → Hp → Prop, (∀ σ' H', N σ' H' → ∃ m', m' < m ∧ W (i + 1) m' σ' H') ∧ ∀ x H', (Itl K a).yld i H x H' → g x σ H' fun σ2 H2 => tb { D with nx := N, ct := N, bk := D.nx } σ2 H2) := by
  refine ⟨fun i m σ H => m = xs.length - i ∧ i ≤ xs.length ∧ Pv i σ H, ⟨xs.length, by simp, Nat.zero_le _, h0⟩, ?_⟩
  rintro i m σ H ⟨rfl, hi, p⟩
  have q := hl i σ H hi p
  by_cases hlt : i < xs.length
  · refine .inr ⟨⟨xs, xs[i], q, by simp [hlt]⟩, Pv (i + 1), fun σ' H' p' => ⟨xs.length - (i + 1), by omega, rfl, hlt, p'⟩, fun x H' y => ?_⟩
    obtain ⟨e, y⟩ := y
    subst e
    exact hs i x σ _ (y xs q) p
  · have e : i = xs.length := by omega
    subst e
    exact .inl ⟨⟨xs, q, Nat.le_refl _⟩, hd σ H p⟩
theorem for_tup {K : PySem.W.Frag} {a : Addr} {xs : List V} {g : TG} {tb : TS} {D : Ends} {σ : St} {H : Hp} (Pv : Nat → St → Hp → Prop) (h0 : Pv 0 σ H) (hl : ∀ i σ H, i ≤ xs.length → Pv i σ H → SqT K H a xs)
    (hs : ∀ i x σ H, xs[i]? = some x → Pv i σ H → g x σ H fun σ2 H2 => tb { D with nx := Pv (i + 1), ct := Pv (i + 1), bk := D.nx } σ2 H2) (hd : ∀ σ H, Pv xs.length σ H → D.nx σ H) :
    ∃ W : Nat → Nat → St → Hp → Prop, (∃ m, W 0 m σ H) ∧ ∀ i m σ H, W i m σ H →
      ((Itt K a).stop i H ∧ D.nx σ H) ∨ ((Itt K a).go i H ∧ ∃ N : St → Hp → Prop, (∀ σ' H', N σ' H' → ∃ m', m' < m ∧ W (i + 1) m' σ' H') ∧ ∀ x H', (Itt K a).yld i H x H' → g x σ H' fun σ2 H2 => tb { D with nx := N, ct := N, bk := D.nx } σ2 H2) := by
  refine ⟨fun i m σ H => m = xs.length - i ∧ i ≤ xs.length ∧ Pv i σ H, ⟨xs.length, by simp, Nat.zero_le _, h0⟩, ?_⟩
  rintro i m σ H ⟨rfl, hi, p⟩
  have q := hl i σ H hi p
  by_cases hlt : i < xs.length
  · refine .inr ⟨⟨xs, xs[i], q, by simp [hlt]⟩, Pv (i + 1), fun σ' H' p' => ⟨xs.length - (i + 1), by omega, rfl, hlt, p'⟩, fun x H' y => ?_⟩
    obtain ⟨e, y⟩ := y
    subst e
    exact hs i x σ _ (y xs q) p
  · have e : i = xs.length := by omega
    subst e
    exact .inl ⟨⟨xs, q, Nat.le_refl _⟩, hd σ H p⟩
theorem for_range {lo : Int} {n : Nat} {g : TG} {tb : TS} {D : Ends} {σ : St} {H : Hp} (Pv : Nat → St → Hp → Prop) (h0 : Pv 0 σ H)
    (hs : ∀ i σ H, i < n → Pv i σ H → g (.int (lo + i)) σ H fun σ2 H2 => tb { D with nx := Pv (i + 1), ct := Pv (i + 1), bk := D.nx } σ2 H2) (hd : ∀ σ H, Pv n σ H → D.nx σ H) :
    ∃ W : Nat → Nat → St → Hp → Prop, (∃ m, W 0 m σ H) ∧ ∀ i m σ H, W i m σ H →
      ((Itr lo n).stop i H ∧ D.nx σ H) ∨ ((Itr lo n).go i H ∧ ∃ N : St → Hp → Prop, (∀ σ' H', N σ' H' → ∃ m', m' < m ∧ W (i + 1) m' σ' H') ∧ ∀ x H', (Itr lo n).yld i H x H' → g x σ H' fun σ2 H2 => tb { D with nx := N, ct := N, bk := D.nx } σ2 H2) := by
  refine ⟨fun i m σ H => m = n - i ∧ i ≤ n ∧ Pv i σ H, ⟨n, by simp, Nat.zero_le _, h0⟩, ?_⟩
  rintro i m σ H ⟨rfl, hi, p⟩
  by_cases hlt : i < n
  · refine .inr ⟨hlt, Pv (i + 1), fun σ' H' p' => ⟨n - (i + 1), by omega, rfl, hlt, p'⟩, fun x H' y => ?_⟩
    obtain ⟨e, y⟩ := y
    subst e y
    exact hs i σ _ hlt p
  · have e : i = n := by omega
    subst e
    exact .inl ⟨Nat.le_refl _, hd σ H p⟩
end L2
namespace L2
open PySem PySem.Spec PyProof.Rows
abbrev R2 := V → V → Hp → VK → Prop
def OpR (X : Cx) (f : Value → Value → Sem Value) (r : R2) : Prop :=
  ∀ (pins : List (Addr × Obj)) (s : Shared) (σ : St) (H : Hp) (x y : V) (v u : Value) (Q : VK), Inv X pins σ H s → RelV x v → RelV y u → r x y H Q →
    wpAny (model X.prog X.w) X.A (f v u) (EP X pins σ Q) X.xe s
def UnR (X : Cx) (f : Value → Sem Value) (r : V → Hp → VK → Prop) : Prop :=
  ∀ (pins : List (Addr × Obj)) (s : Shared) (σ : St) (H : Hp) (x : V) (v : Value) (Q : VK), Inv X pins σ H s → RelV x v → r x H Q →
    wpAny (model X.prog X.w) X.A (f v) (EP X pins σ Q) X.xe s
def CallR (X : Cx) (f : Value) (r : List V → Hp → VK → Prop) : Prop :=
  ∀ (pins : List (Addr × Obj)) (s : Shared) (σ : St) (H : Hp) (xs : List V) (us : List Value) (Q : VK), Inv X pins σ H s → Vals xs us → r xs H Q →
    wpAny (model X.prog X.w) X.A (call f us) (EP X pins σ Q) X.xe s
def tOp (r : R2) (ta tb : TE) : TE := fun σ H Q => ta σ H fun x H1 => tb σ H1 fun y H2 => r x y H2 Q
def tUn (r : V → Hp → VK → Prop) (ta : TE) : TE := fun σ H Q => ta σ H fun x H1 => r x H1 Q
def rI (C : Int → Int → Prop) (g : Int → Int → V) : R2 := fun x y H Q => ∃ i j, x = .int i ∧ y = .int j ∧ C i j ∧ Q (g i j) H
def rI0 (g : Int → Int → V) : R2 := fun x y H Q => ∃ i j, x = .int i ∧ y = .int j ∧ Q (g i j) H
def rU (g : Int → V) : V → Hp → VK → Prop := fun x H Q => ∃ i, x = .int i ∧ Q (g i) H
section
variable {X : Cx} {a b c : Expr} {ta tb tc : TE} {pos : Pos}
theorem binT (ha : PE X a ta) (hb : PE X b tb) {pins : List (Addr × Obj)} {s : Shared} {σ : St} {H : Hp} {R : V → V → Hp → Prop} (I : Inv X pins σ H s)
    (h : ta σ H fun x H1 => tb σ H1 fun y H2 => R x y H2) {Q : Value → Shared → Prop} {f : Value → Value → Sem Value}
    (hf : ∀ v u s2 x y H2, Inv X pins σ H2 s2 → RelV x v → RelV y u → R x y H2 → wpAny (model X.prog X.w) X.A (f v u) Q X.xe s2) :
    wpAny (model X.prog X.w) X.A (eval a X.env) (fun v s₁ => wpAny (model X.prog X.w) X.A (eval b X.env) (fun u s₂ => wpAny (model X.prog X.w) X.A (f v u) Q X.xe s₂) X.xe s₁) X.xe s := by
  refine thn (ha pins s σ H _ I h) fun v s1 ⟨x, H1, I1, r1, q1⟩ => ?_
  refine thn (hb pins s1 σ H1 _ I1 q1) fun u s2 ⟨y, H2, I2, r2, q2⟩ => ?_
  exact hf v u s2 x y H2 I2 r1 r2 q2
theorem pe_op {op : Operator} {r : R2} (ho : OpR X (binaryOp op) r) (ha : PE X a ta) (hb : PE X b tb) : PE X (.BinOp a op b pos) (tOp r ta tb) := by
  intro pins s σ H Q I h
  exact wpAny_BinOp (binT ha hb I h fun v u s2 x y H2 I2 rx ry q => ho pins s2 σ H2 x y v u Q I2 rx ry q)
theorem pe_un {op : UnaryOp} {r : V → Hp → VK → Prop} (ho : UnR X (unaryOp op) r) (ha : PE X a ta) : PE X (.UnaryOp op a pos) (tUn r ta) := by
  intro pins s σ H Q I h
  exact UnaryOp_ (thn (ha pins s σ H _ I h) fun v s1 ⟨x, H1, I1, r1, q1⟩ => ho pins s1 σ H1 x v Q I1 r1 q1)
theorem opI {f : Value → Value → Sem Value} {C : Int → Int → Prop} {g : Int → Int → Int}
    (rule : ∀ (i j : Int) (t u : Tok) (s : Shared) (Q : Value → Shared → Prop) (E : Value → Shared → Prop), C i j → Q (.int (g i j) s.toks) { s with toks := s.toks + 1 } → wpAny (model X.prog X.w) X.A (f (.int i t) (.int j u)) Q E s) :
    OpR X f (rI C fun i j => .int (g i j)) := by
  intro pins s σ H x y v u Q I rx ry h
  obtain ⟨i, j, rfl, rfl, hc, q⟩ := h
  obtain ⟨t, rfl⟩ := rx
  obtain ⟨t', rfl⟩ := ry
  exact rule i j t t' s _ _ hc ⟨.int (g i j), H, I.tok _, ⟨_, rfl⟩, q⟩
theorem opI0 {f : Value → Value → Sem Value} {g : Int → Int → Int}
    (rule : ∀ (i j : Int) (t u : Tok) (s : Shared) (Q : Value → Shared → Prop) (E : Value → Shared → Prop), Q (.int (g i j) s.toks) { s with toks := s.toks + 1 } → wpAny (model X.prog X.w) X.A (f (.int i t) (.int j u)) Q E s) :
    OpR X f (rI0 fun i j => .int (g i j)) := by
  intro pins s σ H x y v u Q I rx ry h
  obtain ⟨i, j, rfl, rfl, q⟩ := h
  obtain ⟨t, rfl⟩ := rx
  obtain ⟨t', rfl⟩ := ry
  exact rule i j t t' s _ _ ⟨.int (g i j), H, I.tok _, ⟨_, rfl⟩, q⟩
theorem opB0 {f : Value → Value → Sem Value} {g : Int → Int → Bool}
    (rule : ∀ (i j : Int) (t u : Tok) (s : Shared) (Q : Value → Shared → Prop) (E : Value → Shared → Prop), Q (.bool (g i j)) s → wpAny (model X.prog X.w) X.A (f (.int i t) (.int j u)) Q E s) :
    OpR X f (rI0 fun i j => .bl (g i j)) := by
  intro pins s σ H x y v u Q I rx ry h
  obtain ⟨i, j, rfl, rfl, q⟩ := h
  obtain ⟨t, rfl⟩ := rx
  obtain ⟨t', rfl⟩ := ry
  exact rule i j t t' s _ _ ⟨.bl (g i j), H, I, rfl, q⟩
def CPow (i j : Int) : Prop := 0 ≤ j ∧ j ≤ 1000000 ∧ i.natAbs < 2 ^ 64
def CMul (i j : Int) : Prop := (-(2 ^ 64) < i ∧ i < 2 ^ 64) ∨ (-(2 ^ 64) < j ∧ j < 2 ^ 64)
theorem CMul.ok {i j : Int} (h : CMul i j) : IntMulOk i j := by
  rcases h with ⟨h1, h2⟩ | ⟨h1, h2⟩
  · exact .of_left (intBits_le_64 h1 h2)
  · exact .of_right (intBits_le_64 h1 h2)
theorem op_add : OpR X (binaryOp .Add) (rI0 fun i j => .int (i + j)) := opI0 fun _ _ _ _ _ _ _ q => add_int q
theorem op_sub : OpR X (binaryOp .Sub) (rI0 fun i j => .int (i - j)) := opI0 fun _ _ _ _ _ _ _ q => sub_int q
theorem op_mul : OpR X (binaryOp .Mult) (rI CMul fun i j => .int (i * j)) := opI fun _ _ _ _ _ _ _ hc q => mul_int q hc.ok
theorem op_mod : OpR X (binaryOp .Mod) (rI (fun _ j => 0 < j) fun i j => .int (i % j)) := opI fun i j _ _ _ _ _ hc q => by
  have h1 : (0 : Int) < j := hc
  exact mod_int' (by omega) (by rw [Int.fmod_eq_emod_of_nonneg i (by omega)]; exact q)
theorem op_pow : OpR X (binaryOp .Pow) (rI CPow fun i j => .int (i ^ j.toNat)) := opI fun _ _ _ _ _ _ _ hc q => pow_int_small hc.1 hc.2.1 hc.2.2 q
theorem op_xor : OpR X (binaryOp .BitXor) (rI0 fun i j => .int (Builtin.bitXor i j)) := opI0 fun _ _ _ _ _ _ _ q => xor_int q
theorem unI {f : Value → Sem Value} {g : Int → Int}
    (rule : ∀ (i : Int) (t : Tok) (s : Shared) (Q : Value → Shared → Prop) (E : Value → Shared → Prop), Q (.int (g i) s.toks) { s with toks := s.toks + 1 } → wpAny (model X.prog X.w) X.A (f (.int i t)) Q E s) :
    UnR X f (rU fun i => .int (g i)) := by
  intro pins s σ H x v Q I rx h
  obtain ⟨i, rfl, q⟩ := h
  obtain ⟨t, rfl⟩ := rx
  exact rule i t s _ _ ⟨.int (g i), H, I.tok _, ⟨_, rfl⟩, q⟩
theorem un_neg : UnR X (unaryOp .USub) (rU fun i => .int (-i)) := unI fun _ _ _ _ _ q => neg_int q
end
def scal : V → V → Bool
  | .non, .non => true | .non, .int _ => true | .int _, .non => true | .non, .bl _ => true | .bl _, .non => true | .non, .str _ => true | .str _, .non => true
  | .int _, .int _ => true | .bl _, .bl _ => true | .str _, .str _ => true | .byt _, .byt _ => true
  | .int _, .str _ => true | .str _, .int _ => true | .bl _, .str _ => true | .str _, .bl _ => true
  | _, _ => false
def rEq : R2 := fun x y H Q => scal x y = true ∧ Q (.bl (decide (x = y))) H
def rNe : R2 := fun x y H Q => scal x y = true ∧ Q (.bl (!decide (x = y))) H
theorem dec_int {i j : Int} : decide (V.int i = V.int j) = (i == j) := by
  rw [Bool.eq_iff_iff]
  simp
theorem dec_bl {i j : Bool} : decide (V.bl i = V.bl j) = (i == j) := by
  rw [Bool.eq_iff_iff]
  simp
theorem dec_str {i j : Str} : decide (V.str i = V.str j) = (i == j) := by
  rw [Bool.eq_iff_iff]
  simp
theorem dec_byt {i j : Array UInt8} : decide (V.byt i = V.byt j) = (i.toList == j.toList) := by
  rw [Bool.eq_iff_iff]
  cases i
  cases j
  simp
section
variable {X : Cx} {a b c : Expr} {ta tb tc : TE} {pos : Pos}
theorem fin_bl {pins : List (Addr × Obj)} {σ : St} {H : Hp} {s : Shared} {Q : VK} {k k' : Bool} (I : Inv X pins σ H s) (q : Q (.bl k) H) (e : k = k') : EP X pins σ Q (.bool k') s := by
  subst e
  exact ⟨.bl k, H, I, rfl, q⟩
theorem op_eq : OpR X (compareOp .Eq) rEq := by
  intro pins s σ H x y v u Q I rx ry h
  obtain ⟨hs, q⟩ := h
  cases x with
  | non =>
    cases rx
    cases y with
    | non => cases ry; exact PySem.EqNone.eq_none_none (fin_bl I q (by simp))
    | bl j => cases ry; exact PySem.EqNone.eq_none_bool (fin_bl I q (by simp))
    | int j => obtain ⟨t', rfl⟩ := ry; exact PySem.EqNone.eq_none_int (fin_bl I q (by simp))
    | str j => obtain ⟨t', rfl⟩ := ry; exact PySem.EqNone.eq_none_str (fin_bl I q (by simp))
    | _ => exact absurd (show false = true from hs) Bool.false_ne_true
  | bl i =>
    cases rx
    cases y with
    | non => cases ry; exact PySem.EqNone.eq_bool_none (fin_bl I q (by simp))
    | bl j => cases ry; exact eq_bool (fin_bl I q dec_bl)
    | str j => obtain ⟨t', rfl⟩ := ry; exact PySem.EqMixed.eq_bool_str (fin_bl I q (by simp))
    | _ => exact absurd (show false = true from hs) Bool.false_ne_true
  | int i =>
    obtain ⟨t, rfl⟩ := rx
    cases y with
    | non => cases ry; exact PySem.EqNone.eq_int_none (fin_bl I q (by simp))
    | int j => obtain ⟨t', rfl⟩ := ry; exact eq_int (fin_bl I q dec_int)
    | str j => obtain ⟨t', rfl⟩ := ry; exact PySem.EqMixed.eq_int_str (fin_bl I q (by simp))
    | _ => exact absurd (show false = true from hs) Bool.false_ne_true
  | str i =>
    obtain ⟨t, rfl⟩ := rx
    cases y with
    | non => cases ry; exact PySem.EqNone.eq_str_none (fin_bl I q (by simp))
    | bl j => cases ry; exact PySem.EqMixed.eq_str_bool (fin_bl I q (by simp))
    | int j => obtain ⟨t', rfl⟩ := ry; exact PySem.EqMixed.eq_str_int (fin_bl I q (by simp))
    | str j => obtain ⟨t', rfl⟩ := ry; exact eq_str (fin_bl I q dec_str)
    | _ => exact absurd (show false = true from hs) Bool.false_ne_true
  | byt i =>
    obtain ⟨t, rfl⟩ := rx
    cases y with
    | byt j => obtain ⟨t', rfl⟩ := ry; exact PySem.W.eq_bytes (fin_bl I q dec_byt)
    | _ => exact absurd (show false = true from hs) Bool.false_ne_true
  | _ => cases y <;> exact absurd (show false = true from hs) Bool.false_ne_true
theorem op_lt : OpR X (compareOp .Lt) (rI0 fun i j => .bl (decide (i < j))) := opB0 fun _ _ _ _ _ _ _ q => lt_int q
theorem op_gt : OpR X (compareOp .Gt) (rI0 fun i j => .bl (decide (j < i))) := opB0 fun _ _ _ _ _ _ _ q => gt_int q
theorem op_ge : OpR X (compareOp .GtE) (rI0 fun i j => .bl (decide (j ≤ i))) := opB0 fun _ _ _ _ _ _ _ q => ge_int q
theorem nomark (b : Expr) {op : CmpOp} (h : op ≠ .In := by decide) (h2 : op ≠ .NotIn := by decide) : behindInMarks op b = false := by
  have e1 : (op == CmpOp.In) = false := by cases op <;> first | rfl | exact absurd rfl h
  have e2 : (op == CmpOp.NotIn) = false := by cases op <;> first | rfl | exact absurd rfl h2
  cases b <;> simp [behindInMarks, e1, e2]
theorem pe_cmpR {op : CmpOp} {r : R2} (ho : OpR X (compareOp op) r) (ha : PE X a ta) (hb : PE X b tb) (hm : behindInMarks op b = false) : PE X (.Compare a [op] [b] pos) (tOp r ta tb) := by
  intro pins s σ H Q I h
  exact wpAny_Compare1 (binT ha hb I h fun v u s2 x y H2 I2 rx ry q => ho pins s2 σ H2 x y v u Q I2 rx ry q) hm
def tTest (t : TE) : TT := fun σ H Q => t σ H fun x H' => ∃ k, x = .bl k ∧ Q k H'
theorem pt_cmpR {op : CmpOp} {r : R2} (ho : OpR X (compareOp op) r) (ha : PE X a ta) (hb : PE X b tb) (hm : behindInMarks op b = false) : PT X (.Compare a [op] [b] pos) (tTest (tOp r ta tb)) := by
  intro pins s σ H Q I h
  refine wpAny_isTrue_Compare1 (thn (ha pins s σ H _ I h) fun v s1 ⟨x, H1, I1, r1, q1⟩ => thn (hb pins s1 σ H1 _ I1 q1) fun u s2 ⟨y, H2, I2, r2, q2⟩ =>
    thn (ho pins s2 σ H2 x y v u _ I2 r1 r2 q2) fun c s3 ⟨z, H3, I3, r3, k, e, q3⟩ => ?_) hm
  subst e
  cases r3
  exact wpAny_truthy_bool ⟨H3, I3, q3⟩
def tChain (r r' : R2) (ta tb tc : TE) : TE := fun σ H Q => ta σ H fun x H1 => tb σ H1 fun y H2 => r x y H2 fun z H3 => ∃ k, z = .bl k ∧
  (if k = true then tc σ H3 fun w' H4 => r' y w' H4 Q else Q (.bl false) H3)
theorem line63 : (sizeLine : Nat) < 2 ^ 63 := by rw [sizeLine_eq]; decide
theorem op_add_str : OpR X (binaryOp .Add) (fun x y H Q => ∃ i j, x = .str i ∧ y = .str j ∧ i.length + j.length ≤ sizeLine ∧ Q (.str (i ++ j)) H) := by
  intro pins s σ H x y v u Q I rx ry h
  obtain ⟨i, j, rfl, rfl, hz, q⟩ := h
  obtain ⟨t, rfl⟩ := rx
  obtain ⟨t', rfl⟩ := ry
  exact add_str (fun t' tk => ⟨.str (i ++ j), H, I.tok _, ⟨_, rfl⟩, q⟩) hz
theorem vals1 {x : V} {us : List Value} (r : Vals [x] us) : ∃ u, us = [u] ∧ RelV x u := by
  cases r with
  | cons r1 r2 => cases r2; exact ⟨_, rfl, r1⟩
theorem vals2 {x y : V} {us : List Value} (r : Vals [x, y] us) : ∃ u w', us = [u, w'] ∧ RelV x u ∧ RelV y w' := by
  cases r with
  | cons r1 r2 =>
    cases r2 with
    | cons r3 r4 => cases r4; exact ⟨_, _, rfl, r1, r3⟩
theorem call_max2 (hc : X.calm = true) : CallR X (.builtin "max") (fun xs H Q => ∃ i j, xs = [.int i, .int j] ∧ Q (.int (if j > i then j else i)) H) := by
  intro pins s σ H xs us Q I r h
  obtain ⟨i, j, rfl, q⟩ := h
  obtain ⟨u, w', rfl, ⟨t, rfl⟩, ⟨t', rfl⟩⟩ := vals2 r
  refine max_two_ints (I.ok.hd hc) fun h' tk k => ⟨_, H, I.kept k, ?_, q⟩
  by_cases hj : j > i
  · rw [if_pos hj, if_pos hj]; exact ⟨_, rfl⟩
  · rw [if_neg hj, if_neg hj]; exact ⟨_, rfl⟩
theorem call_min2 (hc : X.calm = true) : CallR X (.builtin "min") (fun xs H Q => ∃ i j, xs = [.int i, .int j] ∧ Q (.int (if j < i then j else i)) H) := by
  intro pins s σ H xs us Q I r h
  obtain ⟨i, j, rfl, q⟩ := h
  obtain ⟨u, w', rfl, ⟨t, rfl⟩, ⟨t', rfl⟩⟩ := vals2 r
  refine min_two_ints (I.ok.hd hc) fun h' tk k => ⟨_, H, I.kept k, ?_, q⟩
  by_cases hj : j < i
  · rw [if_pos hj, if_pos hj]; exact ⟨_, rfl⟩
  · rw [if_neg hj, if_neg hj]; exact ⟨_, rfl⟩
theorem call_int1 : CallR X (.type "int") (fun xs H Q => (∃ i, xs = [.int i] ∧ Q (.int i) H) ∨ ∃ k, xs = [.bl k] ∧ Q (.int (if k then 1 else 0)) H) := by
  intro pins s σ H xs us Q I r h
  rcases h with ⟨i, rfl, q⟩ | ⟨k, rfl, q⟩
  · obtain ⟨u, rfl, t, rfl⟩ := vals1 r
    exact call_int_int ⟨.int i, H, I, ⟨_, rfl⟩, q⟩
  · obtain ⟨u, rfl, r1⟩ := vals1 r
    cases r1
    exact call_int_bool ⟨.int (if k then 1 else 0), H, I.tok _, ⟨_, rfl⟩, q⟩
theorem call_str_int : CallR X (.type "str") (fun xs H Q => ∃ i, xs = [.int i] ∧ i.natAbs.log2 < 1920 ∧ Q (.str (toString i)) H) := by
  intro pins s σ H xs us Q I r h
  obtain ⟨i, rfl, hz, q⟩ := h
  obtain ⟨u, rfl, t, rfl⟩ := vals1 r
  exact PySem.P.str_of_int hz ⟨.str _, H, I.tok _, ⟨_, rfl⟩, q⟩
end
end L2
namespace L2
open PySem PySem.Spec PyProof.Rows
structure ObjM (h : Heap) (x dx C : Addr) (mA : Str → Option Value) : Prop where
  obj : h.get? x = some (PySem.W.instObj C dx)
  ns : h.Ns1 dx mA
  ne : dx ≠ x
theorem lookIn_ns {h : Heap} {dx : Addr} {mA : Str → Option Value} (n : h.Ns1 dx mA) : ∃ od, h.get? dx = some od ∧ ∀ name, PySem.W.lookIn name od = some (mA name) := by
  obtain ⟨o, es, ep, ho, hd, hk, _, hm⟩ := n
  refine ⟨o, ho, fun name => ?_⟩
  have e := hm name
  unfold nsFind findBy at e
  rw [← Array.find?_toList] at e
  unfold PySem.W.lookIn
  rw [hd]
  dsimp only
  split
  · rename_i y q
    rw [q] at e
    exact congrArg some e
  · rename_i q
    rw [q] at e
    have a : es.toList.any (·.refKey) = false := by
      rw [List.any_eq_false]
      intro y hy
      obtain ⟨z, t, hkey⟩ := hk y (Array.mem_toList_iff.mp hy)
      simp [DictEntry.refKey, hkey]
    have a' : ¬ es.toList.any (·.refKey) = true := by rw [a]; exact Bool.false_ne_true
    rw [if_neg a']
    exact congrArg some e
theorem ObjM.look {h : Heap} {x dx C : Addr} {mA : Str → Option Value} (I : ObjM h x dx C mA) : ∃ od, PySem.W.InstAt h x (PySem.W.instObj C dx) C (some od) ∧ ∀ name, PySem.W.lookIn name od = some (mA name) :=
  let ⟨od, ho, hl⟩ := lookIn_ns I.ns
  ⟨od, ⟨I.obj, rfl, rfl, ho⟩, hl⟩
section
variable {prog : Program} {w : World} {A : Around} {E : Value → Shared → Prop} {s : Shared} {K : PySem.W.Frag} {x dx C f : Addr} {mA : Str → Option Value} {name : Str} {v : Value}
end
section
variable {P : Program} {w : World} {H H' : Hp} {h h' : Heap} {a C dx : Addr} {fs fs' : List (Str × V)}
theorem ins_get (hok : HOk P w H h) (e : H a = some (.ins C dx fs)) : ∃ mA, ObjM h a dx C mA ∧ (∀ f, RelO (fs.lookup f) (mA f)) ∧ PySem.Within mA (fs.map (·.1)) ∧ fs.length ≤ 1000 ∧ H dx = some (.own a) := by
  obtain ⟨d, z, ne, ob, mA, n, r, q⟩ := (show ObjOk P w H h a (.ins C dx fs) from hok a _ e)
  exact ⟨mA, ⟨ob, n, ne⟩, r, q, z, d⟩
end
structure Cls (K : PySem.W.Frag) (C : Addr) : Prop where
  pg : PySem.W.plainGet K C Str.empty = true
  hd : PySem.W.hasDictIn K C = true
  po : PySem.W.plainOver K C = true
  sa : PySem.W.findIn K (.ref C) "__setattr__" = some (some (.builtin "object.__setattr__"))
theorem Cls.get {K : PySem.W.Frag} {C : Addr} (c : Cls K C) (f : Str) : PySem.W.plainGet K C f = true := c.pg
section
variable {X : Cx} {pins : List (Addr × Obj)} {σ : St} {H : Hp} {s : Shared} {a C dx : Addr} {fs : List (Str × V)} {f : Str} {v : V} {A : Around} {E : Value → Shared → Prop}
end
section
variable {X : Cx} {o e value : Expr} {f : Str} {pos pos' tpos : Pos} {ta tv : TE}
end
section
variable {X : Cx} {pins : List (Addr × Obj)} {σ : St} {H : Hp} {s : Shared} {A : Around} {E : Value → Shared → Prop} {Q : Value → Shared → Prop} {c : Value} {b : Bool}
inductive TyOf (K : PySem.W.Frag) (H : Hp) : V → Value → Prop where
  | non : TyOf K H .non (.type "NoneType")
  | bl (x : Bool) : TyOf K H (.bl x) (.type "bool")
  | int (i : Int) : TyOf K H (.int i) (.type "int")
  | str (x : Str) : TyOf K H (.str x) (.type "str")
  | flt (x : UInt64) : TyOf K H (.flt x) (.type "float")
  | lst {a : Addr} {xs : List V} (e : H a = some (.lst xs)) : TyOf K H (.ref a) (.type "list")
  | frz {a : Addr} {o : Obj} {xs : List V} (e : H a = some (.frz o (.lst xs))) : TyOf K H (.ref a) (.type "list")
  | tup {a : Addr} {xs : List V} (e : H a = some (.tup xs)) : TyOf K H (.ref a) (.type "tuple")
  | dK {a : Addr} {kvs : List (Key × V)} (e : H a = some (.dK kvs)) : TyOf K H (.ref a) (.type "dict")
  | dT {a : Addr} {kvs : List (List Key × V)} (e : H a = some (.dT kvs)) : TyOf K H (.ref a) (.type "dict")
  | ins {a C dx : Addr} {fs : List (Str × V)} (e : H a = some (.ins C dx fs)) (cl : Cls K C) (ha : PySem.W.findIn K (.ref C) "__class__" = some (some (.builtin "object.__class__")))
      (hn : PySem.W.specialIn K (.builtin "object.__class__") "__get__" = some (some (.builtin "getset_descriptor.__get__"))) (htk : PySem.W.takesIn K (.builtin "object.__class__") = some true)
      (hm : PySem.W.mroIn K C (.type "object") = some true) : TyOf K H (.ref a) (.ref C)
theorem isinst_ok {x : V} {u t : Value} (I : Inv X pins σ H s) (rx : RelV x u) (ty : TyOf X.K H x t) (e : PySem.W.kitOne X.K t c = some b) (h : ∀ tk, Q (.bool b) { s with toks := tk }) :
    wpAny (model X.prog X.w) A (call (.builtin "isinstance") [u, c]) Q E s := by
  cases ty with
  | non => cases (show u = Value.none from rx); exact PySem.W.kia_one PySem.W.kitx_none I.kIn True.intro e (fun z => nomatch z) h
  | bl y => cases (show u = Value.bool y from rx); exact PySem.W.kia_one PySem.W.kitx_bool I.kIn True.intro e (fun z => nomatch z) h
  | int i => obtain ⟨t, q⟩ := (show ∃ t, u = Value.int i t from rx); cases q; exact PySem.W.kia_one PySem.W.kitx_int I.kIn True.intro e (fun z => nomatch z) h
  | str y => obtain ⟨t, q⟩ := (show ∃ t, u = Value.str y t from rx); cases q; exact PySem.W.kia_one PySem.W.kitx_str I.kIn True.intro e (fun z => nomatch z) h
  | flt y => obtain ⟨t, q⟩ := (show ∃ t, u = Value.float y t from rx); cases q; exact PySem.W.kia_one PySem.W.kitx_float I.kIn True.intro e (fun z => nomatch z) h
  | @lst a xs ea =>
    cases (show u = Value.ref a from rx)
    obtain ⟨_, _, n, _, h1⟩ := (show ObjOk X.prog X.w H s.heap a (.lst xs) from I.hok a _ ea)
    exact PySem.W.kia_one PySem.W.kitx_list I.kIn ⟨_, h1, rfl⟩ e (fun z => nomatch z) h
  | @frz a ob xs ea =>
    cases (show u = Value.ref a from rx)
    obtain ⟨_, _, _, n, _, h1⟩ := (show ObjOk X.prog X.w H s.heap a (.frz ob (.lst xs)) from I.hok a _ ea)
    exact PySem.W.kia_one PySem.W.kitx_list I.kIn ⟨_, h1, rfl⟩ e (fun z => nomatch z) h
  | @tup a xs ea =>
    cases (show u = Value.ref a from rx)
    obtain ⟨_, _, _, p⟩ := (show ObjOk X.prog X.w H s.heap a (.tup xs) from I.hok a _ ea)
    obtain ⟨o, h1, h2, _⟩ := p
    exact PySem.W.kia_one PySem.W.kitx_tuple I.kIn ⟨o, h1, h2⟩ e (fun z => nomatch z) h
  | @dK a kvs ea =>
    cases (show u = Value.ref a from rx)
    obtain ⟨_, _, vs, _, p⟩ := (show ObjOk X.prog X.w H s.heap a (.dK kvs) from I.hok a _ ea)
    obtain ⟨o, es, ep, h1, h2, _⟩ := p
    exact PySem.W.kia_one PySem.W.kitx_dict I.kIn ⟨o, h1, h2.1⟩ e (fun z => nomatch z) h
  | @dT a kvs ea =>
    cases (show u = Value.ref a from rx)
    obtain ⟨_, _, xs, _, o, es, ep, h1, h2, _⟩ := (show ObjOk X.prog X.w H s.heap a (.dT kvs) from I.hok a _ ea)
    exact PySem.W.kia_one PySem.W.kitx_dict I.kIn ⟨o, h1, h2.1⟩ e (fun z => nomatch z) h
  | @ins a C dx fs ea cl ha hn htk hm =>
    cases (show u = Value.ref a from rx)
    obtain ⟨mA, O, _⟩ := ins_get I.hok ea
    obtain ⟨od, J, _⟩ := O.look
    exact PySem.W.kia_one (PySem.W.kitx_own (cl.get _) cl.hd ha hn htk hm) I.kIn J e (fun z => nomatch z) h
end
end L2
namespace L2
open PySem PySem.Spec PyProof.Rows
structure Room (k : Nat) (A : Around) : Prop where
  hd : A.handled = none
  dp : A.depth + 3 * k + 5 < recursionLimit
  un : A.units + 16 * k + 200 < cLine
theorem Room.mono {j k : Nat} {A : Around} (r : Room k A) (h : j ≤ k) : Room j A := ⟨r.hd, by have := r.dp; omega, by have := r.un; omega⟩
theorem Room.deeper {k : Nat} {A : Around} (r : Room (k + 1) A) (env : Env) : Room k (A.deeper env) :=
  ⟨r.hd, by have := r.dp; show A.depth + 1 + 3 * k + 5 < _; omega, by have := r.un; show A.units + 3 + 16 * k + 200 < _; omega⟩
theorem Room.depth {k : Nat} {A : Around} (r : Room k A) : A.depth < recursionLimit := by have := r.dp; omega
theorem Room.units {k : Nat} {A : Around} (r : Room k A) : A.units + 64 < cLine := by have := r.un; omega
def tNil : TA := fun _ H Q => Q [] H
def tCons (ta : TE) (tr : TA) : TA := fun σ H Q => ta σ H fun x H1 => tr σ H1 fun xs H2 => Q (x :: xs) H2
section
variable {X : Cx} {e : Expr} {es : List Expr} {te : TE} {t : TA} {pos : Pos}
theorem pa_nil : PA X [] tNil := fun _ _ _ _ H Q I h => Calls.spliced_nil ⟨[], H, I, .nil, h⟩
theorem pa_cons (ha : PE X e te) (hr : PA X es t) (hs : starEach (e :: es) X.env = (false, eval e X.env) :: starEach es X.env := by rfl) : PA X (e :: es) (tCons te t) := by
  intro pos pins s σ H Q I h
  rw [hs]
  show wpAny _ _ (spliced ((false, eval e X.env) :: backTo pos (starEach es X.env))) _ _ s
  refine Calls.spliced_cons (thn (ha pins s σ H _ I h) fun u s1 ⟨x, H1, I1, r1, q1⟩ => ?_)
  exact thn (hr pos pins s1 σ H1 _ I1 q1) fun us s2 ⟨xs, H2, I2, r2, q2⟩ => ⟨x :: xs, H2, I2, .cons r1 r2, q2⟩
def tTup (t : TA) : TE := fun σ H Q => t σ H fun xs H1 => xs.length ≤ sizeLine ∧ ∀ p, H1 p = none → Q (.ref p) (upd H1 p (.tup xs))
def tLst (t : TA) : TE := fun σ H Q => t σ H fun xs H1 => xs.length ≤ sizeLine ∧ ∀ p, H1 p = none → Q (.ref p) (upd H1 p (.lst xs))
theorem pe_tup {x1} (h : PA X es t) : PE X (.Tuple es x1 pos) (tTup t) := by
  intro pins s σ H Q I hq
  refine wpAny_Tuple_spliced (thn (h pos pins s σ H _ I hq) fun us s1 ⟨xs, H1, I1, r, z, q⟩ => ⟨by rw [← r.length]; exact z, ?_⟩)
  have hf : H1 s1.heap.objs.size = none := I1.hok.fresh (Nat.le_refl _)
  refine ⟨.ref s1.heap.objs.size, upd H1 s1.heap.objs.size (.tup xs), I1.laid (t' := s1.toks) (fun b u e => Heap.get?_push_of_some _ e) (Nat.le_refl _) ?_, rfl, q _ hf⟩
  exact ⟨z, us, r, ⟨_, Heap.get?_push_size _ rfl, rfl, _, rfl⟩⟩
theorem pe_lst (h : PA X es t) : PE X (.List es pos) (tLst t) := by
  intro pins s σ H Q I hq
  refine wpAny_List_spliced (thn (h pos pins s σ H _ I hq) fun us s1 ⟨xs, H1, I1, r, z, q⟩ => ⟨by rw [← r.length]; exact z, ?_⟩)
  have hf : H1 s1.heap.objs.size = none := I1.hok.fresh (Nat.le_refl _)
  refine ⟨.ref s1.heap.objs.size, upd H1 s1.heap.objs.size (.lst xs), I1.laid (t' := s1.toks) (fun b u e => Heap.get?_push_of_some _ e) (Nat.le_refl _) ?_, rfl, q _ hf⟩
  exact ⟨z, us, 0, r, Heap.get?_push_size _ rfl⟩
end
abbrev Sp := List V → Hp → VK → XK → Prop
abbrev CXT := List Env → Hp → Shared → XK → Value → Shared → Prop
structure Env0 (P : Program) (w : World) (K : PySem.W.Frag) (mg : Str → Option Value) (base : Heap) (A : Around) (outer : List Env) (s : Shared) (H : Hp) : Prop where
  frames : A.frames = some outer
  mod : Mod K mg base
  bs : ∀ b o, base.get? b = some o → s.heap.get? b = some o ∧ H b = none
  bsz : base.objs.size ≤ s.heap.objs.size
  funs : s.heap.FunFrames base outer
  frf : ∀ b ∈ frs outer, H b = none
  hok : HOk P w H s.heap
  bare : AllBare s.gens
def CE (outer : List Env) (P : Program) (w : World) (H : Hp) (s : Shared) (Q : VK) (u : Value) (s' : Shared) : Prop :=
  ∃ v H', s'.os = s.os ∧ AllBare s'.gens ∧ Un (frs outer) [] H H' s.heap s'.heap ∧ HOk P w H' s'.heap ∧ RelV v u ∧ Q v H'
def CR (CX : CXT) (outer : List Env) (P : Program) (w : World) (H : Hp) (s : Shared) (Q : VK) (E : XK) (r : Result) (s' : Shared) : Prop :=
  match r with
  | .ok (.ret u) => CE outer P w H s Q u s'
  | .ok _ => False
  | .error e => CX outer H s E e s'
structure FnOk (P : Program) (w : World) (K : PySem.W.Frag) (mg : Str → Option Value) (base : Heap) (CX : CXT) (k : Nat) (f : Addr) (fd : FuncData) (ps : List Str) (sp : Sp) : Prop where
  len : ∀ vs H Q E, sp vs H Q E → vs.length = ps.length
  run : ∀ (A : Around) (outer : List Env) (s : Shared) (H : Hp) (args : Args) (us : List Value) (vs : List V) (Q : VK) (E : XK), Room k A → Env0 P w K mg base A outer s H → BindsTo s fd args (ps.zip us) → Vals vs us → sp vs H Q E →
    codeAny (model P w) A (.call (.ref f) args) (CR CX outer P w H s Q E) s
section
variable {X : Cx} {pins : List (Addr × Obj)} {σ : St} {H : Hp} {s s' : Shared}
theorem Inv.env0 (I : Inv X pins σ H s) : Env0 X.prog X.w X.K X.mg X.base X.A X.stack s H :=
  ⟨I.ok.frames, I.ok.mod, I.bs, Nat.le_trans I.ok.bsz I.sz, I.stack, I.stkFree, I.hok, I.bare⟩
theorem Inv.after {Q : VK} {u : Value} (I : Inv X pins σ H s) (h : CE X.stack X.prog X.w H s Q u s') : EP X pins σ Q u s' := by
  obtain ⟨v, H', os, bare, un, hok, r, q⟩ := h
  obtain ⟨hh, g, d, t, os'⟩ := s'
  obtain rfl : os' = s.os := os
  exact ⟨v, H', I.call (h' := hh) (g' := g) (d' := d) (t' := t) (ch := []) un hok bare (fun b z => absurd z (by simp)), r, q⟩
end
def tCall (sp : Sp) (dvs : List V) (E : XK) (t : TA) : TE := fun σ H Q => t σ H fun vs H1 => sp (vs ++ dvs) H1 Q E
def Binds (K : PySem.W.Frag) (fd : FuncData) (ps : List Str) (ds : List Value) : Prop :=
  ∀ (s : Shared) (us : List Value), K.In s.heap → (us ++ ds).length = ps.length → BindsTo s fd ⟨us, []⟩ (ps.zip (us ++ ds))
theorem Binds.all {K : PySem.W.Frag} {fd : FuncData} {ps : List Str} (h : ∀ us : List Value, us.length = ps.length → bindArgs fd ⟨us, []⟩ = pure (ps.zip us)) : Binds K fd ps [] := fun s us _ hl => by
  rw [List.append_nil] at hl ⊢
  exact .of_eq (h us hl)
def Passes (CX : CXT) (X : Cx) (E : XK) : Prop := ∀ (pins : List (Addr × Obj)) (σ : St) (H : Hp) (s : Shared) (e : Value) (s' : Shared), Inv X pins σ H s → CX X.stack H s E e s' → X.xe e s'
section
variable {X : Cx} {CX : CXT} {k : Nat} {f C : Addr} {fd : FuncData} {ps : List Str} {sp : Sp} {dvs : List V} {ds : List Value} {E : XK} {x m : Str} {p pos apos : Pos} {e o : Expr} {es : List Expr} {ta : TE} {t : TA}
theorem run_fn {pins : List (Addr × Obj)} {σ : St} {H : Hp} {s : Shared} {Q : VK} {us : List Value} {vs : List V} (F : FnOk X.prog X.w X.K X.mg X.base CX k f fd ps sp) (hr : Room k X.A) (hb : Binds X.K fd ps ds) (hd : Vals dvs ds) (hx : Passes CX X E)
    (I : Inv X pins σ H s) (r : Vals vs us) (h : sp (vs ++ dvs) H Q E) : wpAny (model X.prog X.w) X.A (call (.ref f) us) (EP X pins σ Q) X.xe s := by
  have r2 : Vals (vs ++ dvs) (us ++ ds) := r.append hd
  have hl : (us ++ ds).length = ps.length := by rw [← r2.length]; exact F.len _ _ _ _ h
  refine wpAny_call (codeAny_mono (F.run X.A X.stack s H ⟨us, []⟩ (us ++ ds) (vs ++ dvs) Q E hr I.env0 (hb s us I.kIn hl) r2 h) fun r s' hq => ?_)
  cases r with
  | error e => exact hx pins σ H s e s' I hq
  | ok fl =>
    cases fl with
    | ret u => exact I.after hq
    | next => exact False.elim hq
    | brk => exact False.elim hq
    | cont => exact False.elim hq
theorem pe_call (F : FnOk X.prog X.w X.K X.mg X.base CX k f fd ps sp) (hr : Room k X.A) (hg : Gl X x) (hm : X.mg x = some (.ref f)) (hk : PySem.W.keepIn X.K (.ref f) = true) (hb : Binds X.K fd ps ds) (hd : Vals dvs ds) (hx : Passes CX X E)
    (ha : PA X (e :: es) t) (hdb : (x == ("__debug__" : Str)) = false := by decide) (he : starEach (e :: es) X.env = (false, eval e X.env) :: starEach es X.env := by rfl) (hpl : (backTo pos (starEach es X.env)).any (·.1) = false := by rfl) :
    PE X (.Call (.Name x p) (e :: es) [] pos) (tCall sp dvs E t) := by
  intro pins s σ H Q I h
  refine wpAny_Call_Name_kw (ld_glob I hg hm ?_ hdb)
  refine PySem.W.callWith_K (h₀ := X.base) I.ok.mod.kin hk (thn (ha pos pins s σ H _ I h) fun us s1 ⟨vs, H1, I1, r, q⟩ => ⟨I1.kIn, ?_⟩) he hpl
  exact run_fn F hr hb hd hx I1 r q
end
section
variable {X : Cx} {CX : CXT} {k : Nat} {f C : Addr} {fd : FuncData} {ps ks : List Str} {sp : Sp} {E : XK} {x m : Str} {p pos apos kpos : Pos} {e o : Expr} {es : List Expr} {kws : List Keyword} {te ta : TE} {t tk : TA} {nm : Option Str}
variable {g : List Value → List Value → List Value} {gV : List V → List V → List V}
end
structure FnScope (N P : List Str) (sc : Scope) : Prop where
  kind : sc.kind = .function
  co : sc.isCoroutine = false
  gen : sc.isGenerator = false
  nd : N.Nodup
  pre : N.take P.length = P
  par : ∀ x ∈ P, sc.names.lookup x = some .local ∨ sc.names.lookup x = some .cell
  nofree : ∀ y ∈ sc.names, y.2 ≠ .free
theorem bindL_out {kindOf : Str → Option NameKind} {x : Str} : ∀ {binds : List (Str × Value)} {m : Str → Option Value}, (∀ v, (x, v) ∉ binds) → bindL kindOf binds m x = m x
  | [], _, _ => rfl
  | (n, v) :: r, m, h => by
    unfold bindL
    rw [bindL_out fun w hw => h w (List.mem_cons_of_mem _ hw)]
    split
    · have : x ≠ n := by rintro rfl; exact h v List.mem_cons_self
      simp [this]
    · rfl
theorem bindC_out {kindOf : Str → Option NameKind} {x : Str} : ∀ {binds : List (Str × Value)} {m : Str → Option Value}, (∀ v, (x, v) ∉ binds) → bindC kindOf binds m x = m x
  | [], _, _ => rfl
  | (n, v) :: r, m, h => by
    unfold bindC
    rw [bindC_out fun w hw => h w (List.mem_cons_of_mem _ hw)]
    split
    · rfl
    · have : x ≠ n := by rintro rfl; exact h v List.mem_cons_self
      simp [this]
theorem bindL_get {kindOf : Str → Option NameKind} {x : Str} {v : Value} : ∀ {P : List Str} {vs : List Value} {i : Nat} {m : Str → Option Value}, P.Nodup → P[i]? = some x → vs[i]? = some v → kindOf x = some .local →
    bindL kindOf (P.zip vs) m x = some v
  | [], _, _, _, _, h, _, _ => by simp at h
  | _ :: _, [], _, _, _, _, h, _ => by simp at h
  | p :: P, w :: vs, 0, m, nd, h1, h2, hk => by
    simp at h1 h2; subst h1; subst h2
    show bindL kindOf ((p, w) :: P.zip vs) m p = _
    unfold bindL
    rw [bindL_out fun v hv => (List.nodup_cons.mp nd).1 (List.of_mem_zip hv).1, if_pos hk]
    simp
  | p :: P, w :: vs, i + 1, m, nd, h1, h2, hk => by
    show bindL kindOf ((p, w) :: P.zip vs) m x = _
    unfold bindL
    exact bindL_get (i := i) (List.nodup_cons.mp nd).2 (by simpa using h1) (by simpa using h2) hk
theorem bindC_get {kindOf : Str → Option NameKind} {x : Str} {v : Value} : ∀ {P : List Str} {vs : List Value} {i : Nat} {m : Str → Option Value}, P.Nodup → P[i]? = some x → vs[i]? = some v → kindOf x ≠ some .local →
    bindC kindOf (P.zip vs) m x = some v
  | [], _, _, _, _, h, _, _ => by simp at h
  | _ :: _, [], _, _, _, _, h, _ => by simp at h
  | p :: P, w :: vs, 0, m, nd, h1, h2, hk => by
    simp at h1 h2; subst h1; subst h2
    show bindC kindOf ((p, w) :: P.zip vs) m p = _
    unfold bindC
    rw [bindC_out fun v hv => (List.nodup_cons.mp nd).1 (List.of_mem_zip hv).1, if_neg hk]
    simp
  | p :: P, w :: vs, i + 1, m, nd, h1, h2, hk => by
    show bindC kindOf ((p, w) :: P.zip vs) m x = _
    unfold bindC
    exact bindC_get (i := i) (List.nodup_cons.mp nd).2 (by simpa using h1) (by simpa using h2) hk
def start (N : List Str) (vs : List V) : St := vs.map some ++ List.replicate (N.length - vs.length) none
def cxOf (CX : CXT) (P : Program) (w : World) (K : PySem.W.Frag) (mg : Str → Option Value) (base : Heap) (N : List Str) (qual : Str) (scope : Scope) (f : Addr) (cd : Value) (A : Around) (outer : List Env) (s : Shared) (H : Hp) (E : XK) : Cx where
  prog := P
  w := w
  K := K
  mg := mg
  base := base
  A := A.deeper (envOfC qual scope s.heap.objs.size f cd)
  N := N
  s₀ := s
  H₀ := H
  env := envOfC qual scope s.heap.objs.size f cd
  outer := outer
  stack := envOfC qual scope s.heap.objs.size f cd :: outer
  ex := []
  calm := true
  fn := fun _ => true
  pn := []
  xe := fun e s' => wpAny (model P w) (A.deeper (envOfC qual scope s.heap.objs.size f cd)) (leaving (envOfC qual scope s.heap.objs.size f cd) e) (fun _ s'' => CX outer H s E e s'') (fun e' s'' => CX outer H s E e' s'') s'
theorem cell_has {sc : Scope} {n : Nat} {x : Str} (h : sc.names.lookup x = some .cell) : ∃ c, (cellsFrom n sc.names []).lookup x = some c := by
  have q := PySem.W.cellsFrom_some sc.names n [] (.inl h)
  exact Option.isSome_iff_exists.mp q
theorem inv_start {CX : CXT} {P : Program} {w : World} {K : PySem.W.Frag} {mg : Str → Option Value} {base : Heap} {N ps : List Str} {qual : Str} {scope : Scope} {f : Addr} {cd : Value} {A : Around} {outer : List Env} {s s1 : Shared} {H : Hp} {E : XK} {us : List Value} {vs : List V}
    (S : FnScope N ps scope) (hd : A.handled = none) (e0 : Env0 P w K mg base A outer s H) (hl : vs.length = ps.length) (r : Vals vs us)
    (x : InCallC s s.heap.objs.size (bindL (envOfC qual scope s.heap.objs.size f cd).kindOf (ps.zip us) fun _ => none) (cellsFrom (s.heap.objs.size + 1) scope.names []) (bindC (envOfC qual scope s.heap.objs.size f cd).kindOf (ps.zip us) fun _ => none) s1) :
    Inv (cxOf CX P w K mg base N qual scope f cd A outer s H E) [] (start N vs) H s1 := by
  have hpl : ps.length ≤ N.length := by have := congrArg List.length S.pre; rw [List.length_take] at this; omega
  obtain ⟨h1, tk, rfl, hk⟩ := x.done
  have noA : ∀ b : Addr, b ∉ (cxOf CX P w K mg base N qual scope f cd A outer s H E).ex := fun b z => absurd (show b ∈ ([] : List Addr) from z) (by simp)
  refine ⟨⟨e0.mod, S.kind, rfl, rfl, Nat.le_refl _, fun y z c h1 h2 => ?_, fun y hy => ?_, fun y c _ h => ?_, fun _ => hd, Around.frames_deeper e0.frames, .inr ⟨rfl, rfl⟩, fun b z => absurd z (noA b), e0.bs, e0.bsz, fun b _ _ => noA b, fun b z => absurd z (noA b), e0.funs, e0.frf⟩,
    rfl, e0.bare, Un.kept hk, ⟨_, x.toInCall.ns, fun i y v h1 h2 h3 => ?_⟩, fun y c h => ⟨_, x.cell y c h⟩, e0.hok.fresh (Nat.le_refl _), fun y c h => ?_, fun p hp => absurd (show p ∈ ([] : List (Addr × Obj)) from hp) (by simp), e0.hok.kept hk, ?_⟩
  · exact name_of_addr x.apart (PySem.mem_of_lookup h1) (PySem.mem_of_lookup h2)
  · have hy : scope.names.lookup y = some .cell ∨ scope.names.lookup y = some .free := hy
    rcases hy with hy | hy
    · exact cell_has hy
    · exact absurd rfl (S.nofree _ (PySem.mem_of_lookup hy))
  · exact Nat.le_of_lt (x.above y c (PySem.mem_of_lookup h))
  · have hi : i < vs.length := by
      unfold start at h2
      by_cases hi : i < vs.length
      · exact hi
      · rw [List.getElem?_append_right (by simpa using hi)] at h2
        rw [List.getElem?_replicate] at h2
        split at h2 <;> cases h2
    have ha : vs[i]? = some v := by
      unfold start at h2
      rw [List.getElem?_append_left (by simpa using hi), List.getElem?_map] at h2
      cases e : vs[i]? with
      | none => rw [e] at h2; cases h2
      | some a => rw [e] at h2; cases h2; rfl
    obtain ⟨u, hu, rv⟩ := r.get ha
    have hp : ps[i]? = some y := by
      rw [← S.pre, List.getElem?_take_of_lt (by omega)]; exact h1
    have ndP : ps.Nodup := by rw [← S.pre]; exact S.nd.sublist (List.take_sublist _ _)
    refine ⟨u, rv, ?_⟩
    rcases S.par y (List.mem_of_getElem? hp) with k | k
    · exact .inl ⟨k, bindL_get ndP hp hu k⟩
    · obtain ⟨c, e⟩ := cell_has (n := s.heap.objs.size + 1) k
      refine .inr ⟨.inl k, c, e, ?_⟩
      have q := x.cell y c e
      rw [bindC_get ndP hp hu (by show scope.names.lookup y ≠ _; rw [k]; decide)] at q
      exact q
  · exact e0.hok.fresh (Nat.le_of_lt (x.above y c (PySem.mem_of_lookup h)))
  · unfold start
    show _ = N.length
    rw [List.length_append, List.length_map, List.length_replicate]
    omega
theorem fn_of {CX : CXT} {P : Program} {w : World} {K : PySem.W.Frag} {mg : Str → Option Value} {base : Heap} {k : Nat} {f : Addr} {name qual : Str} {params : Arguments} {body : List Stmt} {scope : Scope} {dV kV doc pm cdv ct oc : Value} {an od : Option Addr}
    {osl : Array (Option Value)} {N ps : List Str} {sp : Sp} (lk : K.lookup f = some ⟨oc, od, .func (PySem.W.fnOf name qual params body scope dV kV doc pm an cdv ct), osl⟩) (hcd : PySem.W.codeIn K cdv qual = true) (S : FnScope N ps scope)
    (len : ∀ vs H Q E, sp vs H Q E → vs.length = ps.length)
    (hbody : ∀ (A : Around) (outer : List Env) (s : Shared) (H : Hp) (vs : List V) (Q : VK) (E : XK), Room k (A.deeper (envOfC qual scope s.heap.objs.size f cdv)) → sp vs H Q E →
      ∃ t, PSs (cxOf CX P w K mg base N qual scope f cdv A outer s H E) body t ∧ t { nx := fun _ H' => Q .non H', rt := Q } (start N vs) H) :
    FnOk P w K mg base CX (k + 1) f (PySem.W.fnOf name qual params body scope dV kV doc pm an cdv ct) ps sp := by
  refine ⟨len, fun A outer s H args us vs Q E hr e0 hb r hsp => ?_⟩
  have hl := len _ _ _ _ hsp
  have KX : K.In s.heap := e0.mod.kin.keeps fun b o e => (e0.bs b o e).1
  have lim : s.heap.NoLimit := e0.mod.nolimit.keeps fun b o e => (e0.bs b o e).1
  have hkind : ∀ y ∈ ps.zip us, scope.names.lookup y.1 = some .local ∨ (scope.names.lookup y.1 = some .cell ∧ ((cellsFrom (s.heap.objs.size + 1) scope.names []).lookup y.1).isSome = true) := fun ⟨n, v⟩ hy => by
    rcases S.par n (List.of_mem_zip hy).1 with q | q
    · exact .inl q
    · exact .inr ⟨q, PySem.W.cellsFrom_some _ _ _ (.inl q)⟩
  refine codeAny_call_function hr.depth (KX _ _ lk) rfl S.co S.gen rfl (PySem.W.codeRec_of KX hcd) (hb _ _ _ _ ?_)
  refine wpAny_newFunctionEnv_cells S.kind hkind fun env he s1 x => ?_
  subst he
  refine ⟨lim.keeps x.toInCall.keep, codeAny_func ?_⟩
  obtain ⟨t, ht, hq⟩ := hbody A outer s H vs Q E (hr.deeper _) hsp
  have I : Inv (cxOf CX P w K mg base N qual scope f cdv A outer s H E) [] (start N vs) H s1 := inv_start S hr.hd e0 hl r x
  refine wpAny_mono (ht [] s1 (start N vs) H _ I hq) (fun fl s' hs => ?_) fun e s' hs => hs
  have fin : ∀ {σ' : St} {H' : Hp} {v : V} {u : Value}, Inv (cxOf CX P w K mg base N qual scope f cdv A outer s H E) [] σ' H' s' → RelV v u → Q v H' → CE outer P w H s Q u s' :=
    fun {σ' H' v u} J rv q => ⟨v, H', J.os, J.bare, J.base, J.hok, rv, q⟩
  cases fl with
  | ret u =>
    obtain ⟨v, σ', H', J, rv, q⟩ := hs
    exact fin J rv q
  | next =>
    obtain ⟨σ', H', J, q⟩ := hs
    exact fin (v := V.non) (u := Value.none) J rfl q
  | brk =>
    obtain ⟨_, _, _, q⟩ := hs
    exact False.elim q
  | cont =>
    obtain ⟨_, _, _, q⟩ := hs
    exact False.elim q
end L2
namespace L2
open PySem PySem.Spec PyProof.Rows
section
variable {X : Cx} {x : Str} {p pos : Pos} {e : Expr} {es : List Expr} {t : TA} {id T : String} {r : List V → Hp → VK → Prop}
def tCB (r : List V → Hp → VK → Prop) (t : TA) : TE := fun σ H Q => t σ H fun vs H1 => r vs H1 Q
theorem pe_callB (hc : CallR X (.builtin id) r) (hg : Gl X x) (hm : X.mg x = none) (hv : bootBuiltins x = some (.builtin id)) (ha : PA X (e :: es) t) (hn : x ≠ "__name__" := by decide) (hdb : (x == ("__debug__" : Str)) = false := by decide)
    (he : starEach (e :: es) X.env = (false, eval e X.env) :: starEach es X.env := by rfl) (hpl : (backTo pos (starEach es X.env)).any (·.1) = false := by rfl) : PE X (.Call (.Name x p) (e :: es) [] pos) (tCB r t) := by
  intro pins s σ H Q I h
  refine wpAny_Call_Name_kw (ld_blt I hg hm hv ?_ hn hdb)
  exact PyProof.Rows.callWith_builtin1 (thn (ha pos pins s σ H _ I h) fun us s1 ⟨vs, H1, I1, r1, q1⟩ => hc pins s1 σ H1 vs us Q I1 r1 q1) he hpl
theorem pe_callTy (hc : CallR X (.type T) r) (hg : Gl X x) (hm : X.mg x = none) (hv : bootBuiltins x = some (.type T)) (ha : PA X (e :: es) t) (hn : x ≠ "__name__" := by decide) (hdb : (x == ("__debug__" : Str)) = false := by decide)
    (he : starEach (e :: es) X.env = (false, eval e X.env) :: starEach es X.env := by rfl) (hpl : (backTo pos (starEach es X.env)).any (·.1) = false := by rfl) : PE X (.Call (.Name x p) (e :: es) [] pos) (tCB r t) := by
  intro pins s σ H Q I h
  refine wpAny_Call_Name_kw (ld_blt I hg hm hv ?_ hn hdb)
  exact PyProof.Rows.callWith_type1 (thn (ha pos pins s σ H _ I h) fun us s1 ⟨vs, H1, I1, r1, q1⟩ => hc pins s1 σ H1 vs us Q I1 r1 q1) he hpl
end
end L2
namespace L2
open PySem PySem.Spec PyProof.Rows
section
variable {κ : Type} [DecidableEq κ]
end
section
variable {P : Program} {w : World} {H : Hp} {h : Heap} {a : Addr}
end
section
variable {X : Cx} {pins : List (Addr × Obj)} {σ : St} {H : Hp} {s : Shared} {a : Addr} {y v : V} {u r : Value} {o : Option V} {A : Around} {E : Value → Shared → Prop}
end
section
variable {X : Cx} {pins : List (Addr × Obj)} {σ : St} {H : Hp} {s : Shared} {a : Addr} {kvs : List (Key × V)} {k : Key} {u : Value} {A : Around} {E : Value → Shared → Prop}
end
section
variable {X : Cx} {o i e value : Expr} {pos pos' tpos : Pos} {td ty tv : TE}
end
section
variable {X : Cx} {pos : Pos}
end
section
variable {X : Cx} {pins : List (Addr × Obj)} {σ : St} {H : Hp} {s : Shared} {a : Addr} {y d : V} {u r : Value} {o : Option V} {A : Around} {E : Value → Shared → Prop}
end
section
variable {X : Cx} {o e f : Expr} {apos cpos : Pos} {td ty tx : TE}
end
section
variable {X : Cx} {pins : List (Addr × Obj)} {σ : St} {H : Hp} {s : Shared} {a : Addr} {kvs : List (Key × V)} {A : Around} {E : Value → Shared → Prop}
end
section
variable {X : Cx} {pins : List (Addr × Obj)} {σ : St} {H : Hp} {s : Shared} {a : Addr} {y : V} {u : Value} {A : Around} {E : Value → Shared → Prop}
end
end L2
namespace HT
open PySem PyProof.Rows
section
open PySem.SeqAt
open PySem.AutoSeq1 (wpAny_loadPart')
open PySem.MeetsSeq PySem.MeetsSeq2 PySem.MeetsSeq3
end
section
variable {prog : Program} {w : World} {A : Around} {E : Value → Shared → Prop} {s : Shared}
end
end HT
namespace L2
open PySem PySem.Spec PyProof.Rows
abbrev TO := St → Hp → (Option Int → Hp → Prop) → Prop
def PO (X : Cx) (e : Option Expr) (t : TO) : Prop :=
  ∀ (pins : List (Addr × Obj)) (s : Shared) (σ : St) (H : Hp) (Q : Option Int → Hp → Prop), Inv X pins σ H s → t σ H Q →
    wpAny (model X.prog X.w) X.A (evalPart e X.env) (fun u s' => ∃ o H', Inv X pins σ H' s' ∧ IsPart u o ∧ Q o H') X.xe s
def tNoPart : TO := fun _ H Q => Q none H
def tPart (t : TE) : TO := fun σ H Q => t σ H fun x H1 => ∃ i, x = .int i ∧ Q (some i) H1
section
variable {X : Cx} {e : Expr} {te : TE} {lo hi : Option Expr} {tl th : TO} {pos p2 : Pos}
theorem po_none : PO X none tNoPart := by
  intro pins s σ H Q I h
  rw [evalPart_none]
  exact wpAny_pure ⟨none, H, I, .none, h⟩
theorem po_some (h : PE X e te) : PO X (some e) (tPart te) := by
  intro pins s σ H Q I hw
  rw [evalPart_some]
  refine thn (h pins s σ H _ I hw) fun u s1 ⟨x, H1, I1, r1, q1⟩ => ?_
  obtain ⟨i, rfl, q⟩ := q1
  obtain ⟨t, rfl⟩ := r1
  exact ⟨some i, H1, I1, .int i t, q⟩
def SlR (X : Cx) (r : V → Option Int → Option Int → Hp → VK → Prop) : Prop :=
  ∀ (pins : List (Addr × Obj)) (s : Shared) (σ : St) (H : Hp) (x : V) (v vl vu : Value) (lo hi : Option Int) (sl : Addr) (Q : VK), Inv X pins σ H s → RelV x v → s.heap.IsSliceOf sl vl vu .none → IsPart vl lo → IsPart vu hi → r x lo hi H Q →
    ∃ T id, typeLookup (.type T) "__getitem__" = pure (some (.builtin id)) ∧ s.TypeIs v T ∧ wpAny (model X.prog X.w) X.A (getItem v (.ref sl)) (EP X pins σ Q) X.xe s
def tSl (r : V → Option Int → Option Int → Hp → VK → Prop) (te : TE) (tl th : TO) : TE := fun σ H Q => te σ H fun x H1 => tl σ H1 fun l H2 => th σ H2 fun u H3 => r x l u H3 Q
theorem pe_slice {r : V → Option Int → Option Int → Hp → VK → Prop} (hr : SlR X r) (he : PE X e te) (hl : PO X lo tl) (hu : PO X hi th) : PE X (.Subscript e (.Slice lo hi none p2) pos) (tSl r te tl th) := by
  intro pins s σ H Q I h
  refine Subscript_ (thn (he pins s σ H _ I h) fun v s1 ⟨x, H1, I1, r1, q1⟩ => ?_)
  refine wpAny_Slice (thn (hl pins s1 σ H1 _ I1 q1) fun vl s2 ⟨l, H2, I2, pl, q2⟩ => thn (hu pins s2 σ H2 _ I2 q2) fun vu s3 ⟨u, H3, I3, pu, q3⟩ => ?_)
  rw [evalPart_none]
  refine wpAny_pure ?_
  have I4 : Inv X pins σ H3 { s3 with heap := s3.heap.push { cls := .type "slice", data := .fields #[vl, vu, .none] } } := I3.kept (t' := s3.toks) fun b ob q => Heap.get?_push_of_some _ q
  obtain ⟨T, id, hT, ht, hg⟩ := hr pins { s3 with heap := s3.heap.push { cls := .type "slice", data := .fields #[vl, vu, .none] } } σ H3 x v vl vu l u s3.heap.objs.size Q I4 r1 (Heap.IsSliceOf.new ..) pl pu q3
  show wpAny (model X.prog X.w) X.A (subscriptTail e (.Slice lo hi none p2) v (.ref s3.heap.objs.size)) (EP X pins σ Q) X.xe { s3 with heap := s3.heap.push { cls := .type "slice", data := .fields #[vl, vu, .none] } }
  exact tail_any (ops := [.ref s3.heap.objs.size, v]) ht hT hg (by with_unfolding_all rfl)
end
end L2
namespace L2
open PySem PySem.Spec PyProof.Rows
def ixN (n : Nat) (i : Int) : Option Nat := if 0 ≤ i then (if i < n then some i.toNat else none) else if -(n : Int) ≤ i then some (i + n).toNat else none
def atI {α : Type} (xs : List α) (i : Int) : Option α := (ixN xs.length i).bind fun j => xs[j]?
theorem ixN_seq {n : Nat} {i : Int} {j : Nat} (h : ixN n i = some j) : seqIndex? i n = some j ∧ j < n ∧ -(n : Int) ≤ i ∧ i < n := by
  unfold ixN at h
  by_cases h0 : 0 ≤ i
  · rw [if_pos h0] at h
    by_cases h1 : i < n
    · rw [if_pos h1] at h
      have e : i.toNat = j := Option.some.inj h
      exact ⟨by rw [seqIndex_of h0 h1, e], by omega, by omega, h1⟩
    · rw [if_neg h1] at h; cases h
  · rw [if_neg h0] at h
    by_cases h1 : -(n : Int) ≤ i
    · rw [if_pos h1] at h
      have e : (i + n).toNat = j := Option.some.inj h
      exact ⟨by rw [seqIndex_neg (by omega) h1, e], by omega, h1, by omega⟩
    · rw [if_neg h1] at h; cases h
theorem atI_get {α : Type} {xs : List α} {i : Int} {v : α} (h : atI xs i = some v) : ∃ j, seqIndex? i xs.length = some j ∧ xs[j]? = some v ∧ j < xs.length ∧ -(xs.length : Int) ≤ i ∧ i < xs.length := by
  unfold atI at h
  cases e : ixN xs.length i with
  | none => rw [e] at h; cases h
  | some j =>
    rw [e] at h
    obtain ⟨h1, h2, h3, h4⟩ := ixN_seq e
    exact ⟨j, h1, h, h2, h3, h4⟩
theorem atI_nat {α : Type} {xs : List α} {j : Nat} {v : α} (h : xs[j]? = some v) : atI xs (j : Int) = some v := by
  have hj : j < xs.length := (List.getElem?_eq_some_iff.mp h).1
  have e : ixN xs.length (j : Int) = some j := by
    unfold ixN
    rw [if_pos (by omega), if_pos (by omega)]; simp
  unfold atI; rw [e]; exact h
def PlainIx (b : Expr) : Prop := ∀ o i, subscripted b false o i = operate [o, i] (getItem o i)
def IxR (X : Cx) (r : R2) : Prop :=
  ∀ (value slice : Expr) (pins : List (Addr × Obj)) (s : Shared) (σ : St) (H : Hp) (x y : V) (v u : Value) (Q : VK), Inv X pins σ H s → RelV x v → RelV y u → r x y H Q →
    subscripted slice false v u = operate [v, u] (getItem v u) → wpAny (model X.prog X.w) X.A (subscriptTail value slice v u) (EP X pins σ Q) X.xe s
def MtR (X : Cx) (id : String) (r : V → List V → Hp → VK → Prop) : Prop :=
  ∀ (pins : List (Addr × Obj)) (s : Shared) (σ : St) (H : Hp) (x : V) (xs : List V) (v : Value) (us : List Value) (Q : VK), Inv X pins σ H s → RelV x v → Vals xs us → r x xs H Q →
    wpAny (model X.prog X.w) X.A (call (.builtin id) (v :: us)) (EP X pins σ Q) X.xe s
section
variable {X : Cx} {a b : Expr} {ta tb : TE} {pos : Pos}
theorem pe_ix {r : R2} (hr : IxR X r) (ha : PE X a ta) (hb : PE X b tb) (hs : PlainIx b) : PE X (.Subscript a b pos) (tOp r ta tb) := by
  intro pins s σ H Q I h
  exact Subscript_ (binT ha hb I h fun v u s2 x y H2 I2 rx ry q => hr a b pins s2 σ H2 x y v u Q I2 rx ry q (hs _ _))
def rIxL (K : PySem.W.Frag) : R2 := fun x y H Q => ∃ p xs i v, x = .ref p ∧ y = .int i ∧ SqL K H p xs ∧ atI xs i = some v ∧ Q v H
def rIxT (K : PySem.W.Frag) : R2 := fun x y H Q => ∃ p xs i v, x = .ref p ∧ y = .int i ∧ SqT K H p xs ∧ atI xs i = some v ∧ Q v H
def rIxS : R2 := fun x y H Q => ∃ z i c, x = .str z ∧ y = .int i ∧ z.length ≤ sizeLine ∧ atI z.cps.toList i = some c ∧ Q (.str ⟨#[c]⟩) H
theorem ix_list : IxR X (rIxL X.K) := by
  intro value slice pins s σ H x y v u Q I rx ry h hs
  obtain ⟨p, xs, i, z, rfl, rfl, hq, he, q⟩ := h
  cases rx
  obtain ⟨t, rfl⟩ := ry
  obtain ⟨its, r, pl, hz⟩ := I.list hq
  obtain ⟨j, h1, h2, h3, h4, h5⟩ := atI_get he
  obtain ⟨w, ew, rw'⟩ := r.get h2
  have hl := r.length
  have hn := line63
  have fin : EP X pins σ Q w s := ⟨z, H, I, rw', q⟩
  by_cases h0 : 0 ≤ i
  · have hj : i.toNat = j := by
      rw [seqIndex_of h0 h5] at h1
      exact Option.some.inj h1
    exact item_listR pl.isList h0 (by omega) (by rw [hj]; simpa using ew) fin hs
  · have hj : (i + (its.toArray.size : Int)).toNat = j := by
      rw [seqIndex_neg (by omega) h4] at h1
      rw [List.size_toArray, ← hl]
      exact Option.some.inj h1
    exact subscriptTail_builtinR (x := w) pl.isList.typeIs slot_list_getitem.lookup
      (wpAny_getItem_list_neg (Q := fun r s' => r = w ∧ EP X pins σ Q r s') pl.isList (by omega) (by rw [List.size_toArray] <;> omega) (by omega) (by rw [hj]; simpa using ew) ⟨rfl, fin⟩) hs
theorem ix_tup : IxR X (rIxT X.K) := by
  intro value slice pins s σ H x y v u Q I rx ry h hs
  obtain ⟨p, xs, i, z, rfl, rfl, hq, he, q⟩ := h
  cases rx
  obtain ⟨t, rfl⟩ := ry
  obtain ⟨its, r, pl, hz⟩ := I.tuple hq
  obtain ⟨j, h1, h2, h3, h4, h5⟩ := atI_get he
  obtain ⟨w, ew, rw'⟩ := r.get h2
  have hl := r.length
  have hn := line63
  have fin : EP X pins σ Q w s := ⟨z, H, I, rw', q⟩
  exact subscriptTail_builtinR (x := w) pl.typeIs slot_tuple_getitem.lookup
    (getItem_tuple (j := j) (Q := fun r s' => r = w ∧ EP X pins σ Q r s') pl (by omega) (by omega) (by rw [List.size_toArray, ← hl]; exact h1) (by simpa using ew) ⟨rfl, fin⟩) hs
theorem ix_str : IxR X rIxS := by
  intro value slice pins s σ H x y v u Q I rx ry h hs
  obtain ⟨z, i, c, rfl, rfl, hz, he, q⟩ := h
  obtain ⟨t, rfl⟩ := rx
  obtain ⟨t', rfl⟩ := ry
  obtain ⟨j, h1, h2, h3, h4, h5⟩ := atI_get he
  have hl : z.cps.toList.length = z.length := by simp [Str.length]
  rw [hl] at h1 h4 h5
  have hn := line63
  exact tail_any (typeIs_str s z t) slot_str_getitem.lookup (getItem_str (c := c) (by
    have e1 : decide (i < -(2 ^ 63 : Int)) = false := decide_eq_false (by omega)
    have e2 : decide (i ≥ 2 ^ 63) = false := decide_eq_false (by omega)
    rw [e1, e2, Bool.or_false]) (by rw [h1]; simpa using h2) ⟨.str ⟨#[c]⟩, H, I.tok _, ⟨_, rfl⟩, q⟩) hs
theorem mapSeq_set (its : List Value) (n j : Nat) (u : Value) : Obj.mapSeq (·.setIfInBounds j u) { cls := .type "list", data := .seq its.toArray n } = { cls := .type "list", data := .seq (its.set j u).toArray n } := by
  simp [Obj.mapSeq]
theorem Inv.lst {pins : List (Addr × Obj)} {σ : St} {H : Hp} {s : Shared} {p : Addr} {xs : List V} (I : Inv X pins σ H s) (h : H p = some (.lst xs)) :
    ∃ (its : List Value) (n : Nat), Vals xs its ∧ s.heap.get? p = some { cls := .type "list", data := .seq its.toArray n } ∧ xs.length ≤ sizeLine := by
  obtain ⟨z, its, n, r, e⟩ := I.hok p _ h
  exact ⟨its, n, r, e, z⟩
theorem Inv.lstUpd {pins : List (Addr × Obj)} {σ : St} {H : Hp} {s : Shared} {p : Addr} {xs ys : List V} {its its' : List Value} {n n' : Nat} {f : Obj → Obj} (I : Inv X pins σ H s) (h : H p = some (.lst xs))
    (ho : s.heap.get? p = some { cls := .type "list", data := .seq its.toArray n }) (hf : f { cls := .type "list", data := .seq its.toArray n } = { cls := .type "list", data := .seq its'.toArray n' }) (r : Vals ys its') (hz : ys.length ≤ sizeLine) (t : Nat) :
    Inv X pins σ (upd H p (.lst ys)) { s with heap := s.heap.update p f, toks := t } := by
  have e : (s.heap.update p f).get? p = some { cls := .type "list", data := .seq its'.toArray n' } := by
    rw [Heap.get?_update_self f ho (by rw [hf] <;> rfl), hf]
  refine I.write (x := p) (e := p) (by rw [h]; trivial) (.inl rfl) (fun b u hb q => (Heap.get?_update_other _ _ (Ne.symm hb)).trans q) ⟨_, e⟩ ?_
  exact ⟨hz, its', n', r, e⟩
def rSetL : V → V → V → Hp → (Hp → Prop) → Prop := fun o i v H Q => ∃ p xs k j, o = .ref p ∧ i = .int k ∧ H p = some (.lst xs) ∧ ixN xs.length k = some j ∧ Q (upd H p (.lst (xs.set j v)))
theorem set_list : PSet X rSetL := by
  intro pins s σ H o i v ov iv u Q I ro ri rv h
  obtain ⟨p, xs, k, j, rfl, rfl, hp, hj, q⟩ := h
  cases ro
  obtain ⟨t, rfl⟩ := ri
  obtain ⟨its, n, r, ho, hz⟩ := I.lst hp
  obtain ⟨h1, h2, h3, h4⟩ := ixN_seq hj
  have hl := r.length
  have hn := line63
  have I' : Inv X pins σ (upd H p (.lst (xs.set j v))) { s with heap := s.heap.update p (Obj.mapSeq (·.setIfInBounds j u)) } :=
    I.lstUpd hp ho (mapSeq_set its n j u) (r.set rv j) (by rw [List.length_set]; exact hz) s.toks
  by_cases h0 : 0 ≤ k
  · have hk : k.toNat = j := by
      rw [seqIndex_of h0 h4] at h1
      exact Option.some.inj h1
    exact PySem.W.ki_setAt ho h0 (by omega) (by rw [List.size_toArray, ← hl]; exact h4) (by rw [hk]; exact ⟨_, I', q⟩)
  · have hk : (k + (its.toArray.size : Int)).toNat = j := by
      rw [seqIndex_neg (by omega) h3] at h1
      rw [List.size_toArray, ← hl]
      exact Option.some.inj h1
    exact PySem.W.ki_setBack ho (by omega) (by rw [List.size_toArray, ← hl]; exact h3) (by omega) (by rw [hk]; exact ⟨_, I', q⟩)
def flatV : V → Bool
  | .non => true
  | .bl _ => true
  | .int _ => true
  | .str _ => true
  | _ => false
def eqV : V → V → Bool
  | .non, .non => true
  | .bl a, .bl b => a == b
  | .bl a, .int b => (if a then 1 else 0) == b
  | .int a, .bl b => a == (if b then 1 else 0)
  | .int a, .int b => a == b
  | .str a, .str b => a == b
  | _, _ => false
theorem eqAt_V {A : Around} {s : Shared} {y x : V} {u v : Value} (ry : RelV y u) (rx : RelV x v) (fy : flatV y = true) (fx : flatV x = true) : SeqAt.EqAt A s u v (eqV y x) := by
  cases y with
  | non =>
    cases ry
    cases x with
    | non => cases rx; exact SeqAt.EqAt.same _
    | bl b => cases rx; exact SeqAt.EqAt.none_bool b
    | int b => obtain ⟨t, rfl⟩ := rx; exact SeqAt.EqAt.none_int b t
    | str b => obtain ⟨t, rfl⟩ := rx; exact SeqAt.EqAt.none_str b t
    | _ => exact absurd (show false = true from fx) Bool.false_ne_true
  | bl a =>
    cases ry
    cases x with
    | non => cases rx; exact SeqAt.EqAt.bool_none a
    | bl b => cases rx; exact SeqAt.EqAt.bool_bool a b
    | int b => obtain ⟨t, rfl⟩ := rx; exact SeqAt.EqAt.bool_int a b t
    | str b => obtain ⟨t, rfl⟩ := rx; exact SeqAt.EqAt.bool_str a b t
    | _ => exact absurd (show false = true from fx) Bool.false_ne_true
  | int a =>
    obtain ⟨t', rfl⟩ := ry
    cases x with
    | non => cases rx; exact SeqAt.EqAt.int_none a t'
    | bl b => cases rx; exact SeqAt.EqAt.int_bool a t' b
    | int b => obtain ⟨t, rfl⟩ := rx; exact SeqAt.EqAt.int_int a t' b t
    | str b => obtain ⟨t, rfl⟩ := rx; exact SeqAt.EqAt.int_str a t' b t
    | _ => exact absurd (show false = true from fx) Bool.false_ne_true
  | str a =>
    obtain ⟨t', rfl⟩ := ry
    cases x with
    | non => cases rx; exact SeqAt.EqAt.str_none a t'
    | bl b => cases rx; exact SeqAt.EqAt.str_bool a t' b
    | int b => obtain ⟨t, rfl⟩ := rx; exact SeqAt.EqAt.str_int a t' b t
    | str b => obtain ⟨t, rfl⟩ := rx; exact SeqAt.EqAt.str_str a t' b t
    | _ => exact absurd (show false = true from fx) Bool.false_ne_true
  | _ => exact absurd (show false = true from fy) Bool.false_ne_true
def eqU (x : V) (u : Value) : Bool := match u with
  | .none => eqV .non x
  | .bool b => eqV (.bl b) x
  | .int i _ => eqV (.int i) x
  | .str z _ => eqV (.str z) x
  | _ => false
theorem eqU_of {x y : V} {u : Value} (r : RelV y u) (f : flatV y = true) : eqU x u = eqV y x := by
  cases y with
  | non => cases r; rfl
  | bl b => cases r; rfl
  | int i => obtain ⟨t, rfl⟩ := r; rfl
  | str z => obtain ⟨t, rfl⟩ := r; rfl
  | _ => exact absurd (show false = true from f) Bool.false_ne_true
theorem any_eqU {x : V} : ∀ {xs : List V} {us : List Value}, Vals xs us → xs.all flatV = true → us.any (eqU x) = xs.any fun y => eqV y x
  | _, _, .nil, _ => rfl
  | y :: xs, u :: us, .cons r t, f => by
    rw [List.all_cons, Bool.and_eq_true] at f
    rw [List.any_cons, List.any_cons, eqU_of r f.1, any_eqU t f.2]
theorem mem_eqAt {A : Around} {s : Shared} {x : V} {v : Value} (rx : RelV x v) (fx : flatV x = true) : ∀ {xs : List V} {us : List Value}, Vals xs us → xs.all flatV = true → ∀ u ∈ us, SeqAt.EqAt A s u v (eqU x u)
  | _, _, .nil, _ => fun u hu => by cases hu
  | y :: xs, u :: us, .cons r t, f => fun u' hu => by
    rw [List.all_cons, Bool.and_eq_true] at f
    rcases List.mem_cons.mp hu with rfl | hu
    · rw [eqU_of r f.1]; exact eqAt_V r rx f.1 fx
    · exact mem_eqAt rx fx t f.2 u' hu
def inV (x : V) (xs : List V) : Bool := xs.any fun y => eqV y x
def rIn (K : PySem.W.Frag) (neg : Bool) : R2 := fun x y H Q => ∃ p xs, y = .ref p ∧ (SqL K H p xs ∨ SqT K H p xs) ∧ flatV x = true ∧ xs.all flatV = true ∧ Q (.bl (if neg then !inV x xs else inV x xs)) H
theorem op_in_seq : OpR X (compareOp .In) (rIn X.K false) := by
  intro pins s σ H x y v u Q I rx ry h
  obtain ⟨p, xs, rfl, hq, fx, fs, q⟩ := h
  cases ry
  rcases hq with hq | hq
  · obtain ⟨its, r, pl, hz⟩ := I.list hq
    refine SeqAt.in_listAt (eqU x) pl.isList (fun w hw => mem_eqAt rx fx r fs w (by simpa using hw)) ⟨.bl _, H, I, rfl, ?_⟩
    rw [show its.toArray.any (eqU x) = its.any (eqU x) by simp, any_eqU r fs]
    exact q
  · obtain ⟨its, r, pl, hz⟩ := I.tuple hq
    refine SeqAt.in_tupleAt (eqU x) pl (fun w hw => mem_eqAt rx fx r fs w (by simpa using hw)) ⟨.bl _, H, I, rfl, ?_⟩
    rw [show its.toArray.any (eqU x) = its.any (eqU x) by simp, any_eqU r fs]
    exact q
theorem op_notIn_seq : OpR X (compareOp .NotIn) (rIn X.K true) := by
  intro pins s σ H x y v u Q I rx ry h
  obtain ⟨p, xs, rfl, hq, fx, fs, q⟩ := h
  cases ry
  rcases hq with hq | hq
  · obtain ⟨its, r, pl, hz⟩ := I.list hq
    refine SeqAt.notIn_listAt (eqU x) pl.isList (fun w hw => mem_eqAt rx fx r fs w (by simpa using hw)) ⟨.bl _, H, I, rfl, ?_⟩
    rw [show its.toArray.any (eqU x) = its.any (eqU x) by simp, any_eqU r fs]
    exact q
  · obtain ⟨its, r, pl, hz⟩ := I.tuple hq
    refine SeqAt.notIn_tupleAt (eqU x) pl (fun w hw => mem_eqAt rx fx r fs w (by simpa using hw)) ⟨.bl _, H, I, rfl, ?_⟩
    rw [show its.toArray.any (eqU x) = its.any (eqU x) by simp, any_eqU r fs]
    exact q
theorem call_len_seq : CallR X (.builtin "len") (fun xs H Q => ∃ p ys, xs = [.ref p] ∧ (SqL X.K H p ys ∨ SqT X.K H p ys) ∧ Q (.int ys.length) H) := by
  intro pins s σ H xs us Q I r h
  obtain ⟨p, ys, rfl, hq, q⟩ := h
  obtain ⟨u, rfl, rx⟩ := vals1 r
  cases rx
  have hn := line63
  rcases hq with hq | hq
  · obtain ⟨its, r', pl, hz⟩ := I.list hq
    have hlen := r'.length
    exact Calls.call_len_list pl.isList (by simp only [List.size_toArray] <;> omega) ⟨.int ys.length, H, I.tok _, ⟨s.toks + 1, by rw [List.size_toArray, hlen]⟩, q⟩
  · obtain ⟨its, r', pl, hz⟩ := I.tuple hq
    have hlen := r'.length
    exact len_tuple pl (by simp only [List.size_toArray] <;> omega) ⟨.int ys.length, H, I.tok _, ⟨s.toks + 1, by rw [List.size_toArray, hlen]⟩, q⟩
theorem call_list_of : CallR X (.type "list") (fun xs H Q => ∃ p ys, xs = [.ref p] ∧ (SqL X.K H p ys ∨ SqT X.K H p ys) ∧ ∀ l, H l = none → Q (.ref l) (upd H l (.lst ys))) := by
  intro pins s σ H xs us Q I r h
  obtain ⟨p, ys, rfl, hq, q⟩ := h
  obtain ⟨u, rfl, rx⟩ := vals1 r
  cases rx
  have fin : ∀ (its : List Value), Vals ys its → ys.length ≤ sizeLine → ∀ (h' : Heap) (c' : Nat), (∀ b o', s.heap.get? b = some o' → h'.get? b = some o') →
      h'.get? s.heap.objs.size = some { cls := .type "list", dict := none, data := .seq its.toArray c', slots := #[] } → EP X pins σ Q (.ref s.heap.objs.size) { s with heap := h' } := fun its r' hz h' c' kp e =>
    ⟨.ref s.heap.objs.size, _, I.laid (t' := s.toks) kp (Nat.le_refl _) (show ObjOk X.prog X.w _ h' _ (.lst ys) from ⟨hz, its, c', r', e⟩), rfl, q _ (I.hok.fresh (Nat.le_refl _))⟩
  rcases hq with hq | hq
  · obtain ⟨its, r', pl, hz⟩ := I.list hq
    have hlen := r'.length
    obtain ⟨o, ho, hc, n, hd⟩ := pl.isList
    exact call_list_seq p (.inl rfl) ho hc hd (fun h' c' kp e => fin its r' hz h' c' kp e) (by simp only [List.size_toArray] <;> omega)
  · obtain ⟨its, r', pl, hz⟩ := I.tuple hq
    have hlen := r'.length
    obtain ⟨o, ho, hc, n, hd⟩ := pl
    exact call_list_seq p (.inr rfl) ho hc hd (fun h' c' kp e => fin its r' hz h' c' kp e) (by simp only [List.size_toArray] <;> omega)
theorem call_tuple_of : CallR X (.type "tuple") (fun xs H Q => ∃ p ys, xs = [.ref p] ∧ ((SqL X.K H p ys ∧ ∀ l, H l = none → Q (.ref l) (upd H l (.tup ys))) ∨ (SqT X.K H p ys ∧ Q (.ref p) H))) := by
  intro pins s σ H xs us Q I r h
  obtain ⟨p, ys, rfl, h⟩ := h
  obtain ⟨u, rfl, rx⟩ := vals1 r
  cases rx
  rcases h with ⟨hq, q⟩ | ⟨hq, q⟩
  · obtain ⟨its, r', pl, hz⟩ := I.list hq
    have hlen := r'.length
    refine call_tuple_list pl.isList (fun h' kp => ?_) (by simp only [List.size_toArray] <;> omega)
    have I1 : Inv X pins σ H { s with heap := h' } := I.kept (t' := s.toks) kp
    have I2 : Inv X pins σ (upd H h'.objs.size (.tup ys)) { s with heap := h'.push { cls := .type "tuple", data := .seq its.toArray } } :=
      I1.laid (t' := s.toks) (fun b o e => Heap.get?_push_of_some _ e) (Nat.le_refl _) (show ObjOk X.prog X.w _ _ _ (.tup ys) from ⟨hz, its, r', IsTup.new _ _⟩)
    exact ⟨.ref h'.objs.size, _, I2, rfl, q _ (I1.hok.fresh (Nat.le_refl _))⟩
  · obtain ⟨its, r', pl, hz⟩ := I.tuple hq
    exact call_tuple_same pl ⟨.ref p, H, I, rfl, q⟩
def tyV (K : PySem.W.Frag) (T : String) (x : V) (H : Hp) : Prop := match x with
  | .str _ => T = "str"
  | .int _ => T = "int"
  | .ref p => (T = "list" ∧ ∃ xs, SqL K H p xs) ∨ (T = "tuple" ∧ ∃ o, K.lookup p = some o ∧ o.cls = .type "tuple" ∧ o.dict = none) ∨
      (T = "dict" ∧ ((∃ kvs, H p = some (.dK kvs)) ∨ ∃ kvs, H p = some (.dT kvs))) ∨ (T = "set" ∧ ∃ S n, H p = some (.set S n))
  | _ => False
theorem tyV_is {pins : List (Addr × Obj)} {σ : St} {H : Hp} {s : Shared} {T : String} {x : V} {v : Value} (I : Inv X pins σ H s) (r : RelV x v) (ty : tyV X.K T x H) :
    s.TypeIs v T ∧ ∀ a, v = .ref a → ∃ ob, s.heap.get? a = some ob ∧ ob.dict = none := by
  cases x with
  | str z =>
    obtain ⟨t, rfl⟩ := r
    cases (show T = "str" from ty)
    exact ⟨typeIs_str s z t, fun _ e => nomatch e⟩
  | int i =>
    obtain ⟨t, rfl⟩ := r
    cases (show T = "int" from ty)
    exact ⟨typeIs_int s i t, fun _ e => nomatch e⟩
  | ref p =>
    cases r
    rcases ty with ⟨rfl, xs, hq⟩ | ⟨rfl, o, hk, hc, hd⟩ | ⟨rfl, hk⟩ | ⟨rfl, S, n, hk⟩
    · obtain ⟨its, _, pl, _⟩ := I.list hq
      refine ⟨pl.isList.typeIs, fun a e => ?_⟩
      cases e
      obtain ⟨o, n, e, c, hd, _⟩ := pl
      exact ⟨o, e, hd⟩
    · refine ⟨⟨o, I.kIn p o hk, hc⟩, fun a e => ?_⟩
      cases e
      exact ⟨o, I.kIn _ o hk, hd⟩
    · have z : ∃ o, s.heap.get? p = some o ∧ o.ExactDict := by
        rcases hk with ⟨kvs, hk⟩ | ⟨kvs, hk⟩
        · obtain ⟨_, _, _, _, o, _, _, e, ex, _⟩ := I.hok p _ hk
          exact ⟨o, e, ex⟩
        · obtain ⟨_, _, _, _, o, _, _, e, ex, _⟩ := I.hok p _ hk
          exact ⟨o, e, ex⟩
      obtain ⟨o, e, ex⟩ := z
      refine ⟨⟨o, e, ex.1⟩, fun a e2 => ?_⟩
      cases e2
      exact ⟨o, e, ex.2.1⟩
    · obtain ⟨o, _, _, _, e, ex, _⟩ := I.hok p _ hk
      refine ⟨⟨o, e, ex.1⟩, fun a e2 => ?_⟩
      cases e2
      exact ⟨o, e, ex.2.1⟩
  | _ => exact False.elim ty
def tBM0 (K : PySem.W.Frag) (T : String) (r : V → List V → Hp → VK → Prop) (to : TE) : TE := fun σ H Q => to σ H fun x H1 => tyV K T x H1 ∧ r x [] H1 Q
def tBM (K : PySem.W.Frag) (T : String) (r : V → List V → Hp → VK → Prop) (to : TE) (t : TA) : TE := fun σ H Q => to σ H fun x H1 => tyV K T x H1 ∧ t σ H1 fun xs H2 => r x xs H2 Q
variable {o e : Expr} {es : List Expr} {to : TE} {t : TA} {name : Str} {apos cpos : Pos} {T id : String} {r : V → List V → Hp → VK → Prop}
theorem pe_bm0 (pa : PlainAttrs T) (slot : Slot T name id) (hty : typeOf (.builtin id) = pure (.type "method_descriptor")) (hm : MtR X id r) (ho : PE X o to)
    (hbase : attributeBase o name X.env (eval o X.env) = eval o X.env := by rfl) (hline : (apos.endLine == cpos.line) = true := by rfl) : PE X (.Call (.Attribute o name apos) [] [] cpos) (tBM0 X.K T r to) := by
  intro pins s σ H Q I h
  refine wpAny_Call_method0_late hbase hline (thn (ho pins s σ H _ I h) fun v s1 ⟨x, H1, I1, r1, ty, q1⟩ => ?_)
  obtain ⟨h1, h2⟩ := tyV_is I1 r1 ty
  exact ⟨T, id, pa, slot, hty, h1, h2, Calls.callWith_builtin rfl (PySem.evalArgs_none (hm pins s1 σ H1 x [] v [] Q I1 r1 .nil q1))⟩
theorem pe_bm (pa : PlainAttrs T) (slot : Slot T name id) (hty : typeOf (.builtin id) = pure (.type "method_descriptor")) (hm : MtR X id r) (ho : PE X o to) (ha : PA X (e :: es) t)
    (hbase : attributeBase o name X.env (eval o X.env) = eval o X.env := by rfl)
    (hfew : ((backTo cpos (starEach (e :: es) X.env)).all (fun x => !x.1) && (backToKw cpos (keywordEach [] X.env)).all (fun x => x.1.isSome)
      && decide ((e :: es).length + ([] : List Keyword).length + (if ([] : List Keyword).isEmpty then 0 else 1) < 30)) = true := by rfl)
    (hline : (apos.endLine == cpos.line) = true := by rfl) (hs : starEach (e :: es) X.env = (false, eval e X.env) :: starEach es X.env := by rfl) (hplain : (backTo cpos (starEach es X.env)).any (·.1) = false := by rfl) :
    PE X (.Call (.Attribute o name apos) (e :: es) [] cpos) (tBM X.K T r to t) := by
  intro pins s σ H Q I h
  refine wpAny_Call_method_late hbase hfew hline rfl (thn (ho pins s σ H _ I h) fun v s1 ⟨x, H1, I1, r1, ty, q1⟩ => ?_)
  obtain ⟨h1, h2⟩ := tyV_is I1 r1 ty
  refine ⟨T, id, pa, slot, hty, h1, h2, ?_⟩
  have hA := ha cpos pins s1 σ H1 _ I1 q1
  rw [hs] at hA ⊢
  refine Calls.callWith_builtin (by show (false || (backTo cpos (starEach es X.env)).any (·.1)) = false; rw [hplain] <;> rfl) (Calls.evalArgs_plain ?_)
  exact thn hA fun us s2 ⟨vs, H2, I2, r2, q2⟩ => hm pins s2 σ H2 x vs v us Q I2 r1 r2 q2
/- xs.append(e), list.index on a module's tuple .. are MtR facts of 06m -/
end
end L2
namespace L2
open PySem PySem.Spec PyProof.Rows
def MtM (X : Cx) (id : String) (r : V → List V → Hp → VK → Prop) : Prop :=
  ∀ (pins : List (Addr × Obj)) (s : Shared) (σ : St) (H : Hp) (x : V) (xs : List V) (v : Value) (us : List Value) (Q : VK), Inv X pins σ H s → RelV x v → Vals xs us → r x xs H Q →
    wpAny (model X.prog X.w) X.A (call (.builtin id) (v :: us)) (EP X pins σ Q) X.xe s
theorem Vals.one : ∀ {x : V} {us : List Value}, Vals [x] us → ∃ u, us = [u] ∧ RelV x u
  | _, _, .cons r .nil => ⟨_, rfl, r⟩
theorem Vals.zero : ∀ {us : List Value}, Vals [] us → us = []
  | _, .nil => rfl
section
variable {X : Cx} {pins : List (Addr × Obj)} {σ : St} {H : Hp} {s : Shared} {l b : Addr} {xs ys zs : List V}
theorem Inv.lset {its its' : List Value} {n : Nat} {f : Array Value → Array Value} {t' : Nat} (I : Inv X pins σ H s) (hH : H l = some (.lst xs))
    (e : s.heap.get? l = some { cls := .type "list", data := .seq its.toArray n }) (hf : f its.toArray = its'.toArray) (hv : Vals ys its') (hz : ys.length ≤ sizeLine) :
    Inv X pins σ (upd H l (.lst ys)) { s with heap := s.heap.update l (Obj.mapSeq f), toks := t' } := by
  have q := PySem.IsL.update e f
  rw [hf] at q
  refine I.write (x := l) (e := l) (by rw [hH]; exact trivial) (.inl rfl) (fun b' u hb hu => (Heap.get?_update_other s.heap (Obj.mapSeq f) (Ne.symm hb)).trans hu) ⟨_, q⟩ ?_
  exact ⟨hz, its', _, hv, q⟩
theorem Inv.lnew {its : List Value} {t' : Nat} (I : Inv X pins σ H s) (hv : Vals ys its) (hz : ys.length ≤ sizeLine) :
    Inv X pins σ (upd H s.heap.objs.size (.lst ys)) { s with heap := s.heap.push { cls := .type "list", data := .seq its.toArray }, toks := t' } :=
  I.laid (fun _ _ q => Heap.get?_push_of_some _ q) (Nat.le_refl _) ⟨hz, its, 0, hv, Heap.get?_push_size _ rfl⟩
theorem Inv.fresh (I : Inv X pins σ H s) : H s.heap.objs.size = none := I.hok.fresh (Nat.le_refl _)
theorem Inv.lstM (I : Inv X pins σ H s) (hH : H l = some (.lst xs)) : xs.length ≤ sizeLine ∧ ∃ (its : List Value) (n : Nat), Vals xs its ∧ xs.length = its.length ∧ s.heap.get? l = some { cls := .type "list", data := .seq its.toArray n } := by
  obtain ⟨z, its, n, r, e⟩ := I.hok l _ hH
  exact ⟨z, its, n, r, r.length, e⟩
theorem notLongL {n : Nat} (h : n ≤ sizeLine) : Builtin.List.listTooLong n = false := by
  unfold Builtin.List.listTooLong
  exact decide_eq_false (by omega)
end
section
variable {X : Cx}
def rAppend : V → List V → Hp → VK → Prop := fun x vs H Q => ∃ l xs y, x = .ref l ∧ vs = [y] ∧ H l = some (.lst xs) ∧ xs.length < sizeLine ∧ Q .non (upd H l (.lst (xs ++ [y])))
theorem mt_append : MtM X "list.append" rAppend := by
  intro pins s σ H x vs v us Q I rx rv h
  obtain ⟨l, xs, y, rfl, rfl, hH, hz, q⟩ := h
  cases rx
  obtain ⟨u, rfl, ru⟩ := rv.one
  obtain ⟨z, its, n, r, hl, e⟩ := I.lstM hH
  refine call_meets F.slot_list_append ⟨_, e, rfl⟩ F.entry_list_append (F.args_list_append_2 _ _) (PySem.list_append l its.toArray n u (by rw [List.size_toArray]; omega)) ⟨e, ?_⟩
  refine ⟨.non, _, I.lset (its' := its ++ [u]) hH e (by simp) (r.append (.cons ru .nil)) ?_, rfl, q⟩
  rw [List.length_append, List.length_singleton]
  omega
def rClear : V → List V → Hp → VK → Prop := fun x vs H Q => ∃ l xs, x = .ref l ∧ vs = [] ∧ H l = some (.lst xs) ∧ Q .non (upd H l (.lst []))
theorem mt_clear : MtM X "list.clear" rClear := by
  intro pins s σ H x vs v us Q I rx rv h
  obtain ⟨l, xs, rfl, rfl, hH, q⟩ := h
  cases rx
  have hus := rv.zero
  subst hus
  obtain ⟨z, its, n, r, hl, e⟩ := I.lstM hH
  refine call_meets F.slot_list_clear ⟨_, e, rfl⟩ F.entry_list_clear (F.args_list_clear_1 _) (AutoSeq1.list_clear_list_0 l its.toArray n (by rw [List.size_toArray]; omega)) ⟨e, ?_⟩
  exact ⟨.non, _, I.lset (its' := []) (ys := []) hH e rfl .nil (Nat.zero_le _), rfl, q⟩
def rCat : R2 := fun x y H Q => ∃ l b xs zs, x = .ref l ∧ y = .ref b ∧ H l = some (.lst xs) ∧ H b = some (.lst zs) ∧ xs.length + zs.length ≤ sizeLine ∧ ∀ p, H p = none → Q (.ref p) (upd H p (.lst (xs ++ zs)))
theorem op_cat : OpR X (binaryOp .Add) rCat := by
  intro pins s σ H x y v u Q I rx ry h
  obtain ⟨l, b, xs, zs, rfl, rfl, hH, hB, hz, q⟩ := h
  cases rx
  cases ry
  obtain ⟨z, its, n, r, hl, e⟩ := I.lstM hH
  obtain ⟨z2, its2, n2, r2, hl2, e2⟩ := I.lstM hB
  refine PySem.P.add_list e e2 ?_ (by rw [List.size_toArray, List.size_toArray]; omega)
  have ea : its.toArray ++ its2.toArray = (its ++ its2).toArray := by simp
  rw [ea]
  exact ⟨.ref _, _, I.lnew (t' := s.toks) (r.append r2) (by rw [List.length_append]; omega), rfl, q _ I.fresh⟩
end
section
variable {prog : Program} {w : World} {A : Around} {E : Value → Shared → Prop} {s : Shared}
set_option maxRecDepth 100000 in
end
section
variable {X : Cx}
end
end L2
namespace Att
open PySem PySem.W PySem.Calls PyProof.Rows
theorem ints_of_wellAll {P : Params} {h : Heap} : ∀ (ns : List Int) (vs : List Value), WellAll P h vs (ns.map WData.int) → IntsAre vs ns := by
  intro ns
  induction ns with
  | nil =>
    intro vs w
    rw [List.map_nil] at w
    cases w
    exact .nil
  | cons n ns ih =>
    intro vs w
    rw [List.map_cons] at w
    cases w with
    | cons a b =>
      cases a
      exact .cons _ _ (ih _ b)
theorem script_of {l : OpenLaw} {n : Nat} (hn : l.most = some n) {P : Params} {h : Heap} {args : List WData} {vals : List Value}
    (hpre : l.row.toRowW.claim.pre args = true) (hwl : WellAll P h vals args) :
    ∃ a vs ns, vals = [Value.ref a] ∧ args = [WData.list (ns.map WData.int)] ∧ h.get? a = some { cls := .type "list", data := .seq vs.toArray } ∧ IntsAre vs ns ∧ ns.length ≤ n := by
  have hsh : WShape.hasAll [] args [.list .int] = true := (pre_splitW hpre).1
  have hc : l.pre.holds [] { args := args } = true := (pre_splitW hpre).2
  obtain ⟨d, r, rfl, h1, h2⟩ := hasAllW_cons hsh
  obtain rfl := hasAllW_nil h2
  obtain ⟨xs, rfl, h3⟩ := hasW_list h1
  obtain ⟨ns, rfl⟩ := items_int h3
  have hlen : ns.length ≤ n := by
    unfold OpenLaw.pre at hc
    have h4 : (WTm.not (.lt (.lit (.int (n : Int))) (.len (.arg 0)))).holds [] { args := [.list (ns.map .int)] } = true := by
      have h4 := (holds_andW hc).1
      rw [hn] at h4
      exact h4
    have h5 := condW_of h4 (w_not (w_lt w_lit (w_len_list (w_arg rfl))))
    rw [List.length_map] at h5
    refine Nat.le_of_not_lt fun q => ?_
    have q' : (n : Int) < ((ns.length : Nat) : Int) := by omega
    first
      | (rw [decide_eq_true q'] at h5; exact absurd h5 (by decide))
      | (simp at h5; omega)
  cases hwl with
  | cons w1 w2 =>
    cases w2
    cases w1 with
    | list ho hall => exact ⟨_, _, ns, rfl, rfl, ho, ints_of_wellAll ns _ hall, hlen⟩
theorem post_true (l : OpenLaw) (args : List WData) : l.row.toRowW.claim.post args (.bool true) args = true :=
  postW_of (r := l.row.toRowW) (X := (true == true))
    (show WShape.has [] (.bool true) .bool = true by first | rfl | decide | simp [WShape.has, WShape.arms, WShape.armsAll])
    (show (WTm.eq .res (.lit (.bool true))).value [] { args := args, res := some (.bool true), after := args } = some (.bool (true == true)) from w_eq_bool (w_res rfl) w_lit) rfl
theorem attach_call {l : OpenLaw} {n : Nat} {q : Program} {loose : List Str} {XP : (Str → Option Value) → Heap → Prop} {YP : World → Heap → Prop} {d : DefRec}
    (hn : l.most = some n) (hdf : d.params.defaults = [])
    (call : ∀ (w : World) (s₀ s₁ : Shared) (mg mb : Str → Option Value) (fa : Addr) (o : Obj) (pm cd doc : Value) (a : Addr) (vs : List Value) (ns : List Int),
      Ground q loose [] XP w s₀ mg mb s₁.heap → YP w s₁.heap →
      s₁.heap.get? fa = some o → o.data = .func (docDef d.name d.params d.body d.scope pm cd doc) → s₁.heap.CodeRec cd d.name → mg d.name = some (.ref fa) →
      s₁.heap.get? a = some { cls := .type "list", data := .seq vs.toArray } → IntsAre vs ns → ns.length ≤ n → s₁.gens = #[] →
      codeAny (model l.prog w) callerA (.call (.ref fa) ⟨[.ref a], []⟩) (fun r s' => r = .ok (.ret (.bool true)) ∧ OldK s₁.heap s'.heap ∧ s'.os = s₁.os ∧ AllBare s'.gens) s₁) :
    WalkO q loose XP YP l.row.toRowW d [] (fun f vs => PySem.call f vs) := by
  intro w s₀ s₁ mg mb G Y fa o pm cd doc dV kV ho hd hcd hD hmg hg args vals as hpre hlay hrd hwl hlo
  obtain rfl : dV = .none := Dflts.none hD hdf
  obtain rfl : kV = .none := Dflts.noKw hD
  obtain ⟨a, vs, ns, rfl, rfl, hobj, hints, hlen⟩ := script_of hn hpre hwl
  refine enter_call (codeAny_mono (call w s₀ s₁ mg mb fa o pm cd doc a vs ns G Y ho (fd_plain hd) hcd hmg hobj hints hlen hg) fun r s' hq => ?_)
  obtain ⟨rfl, h2, h3, h4⟩ := hq
  exact ⟨.inl ⟨.bool true, .bool true, [], rfl, fun _ => rfl, .bool true, post_true l _, fun _ => ⟨List.Pairwise.nil, fun _ hm => (nomatch hm)⟩⟩, h2, h3, h4⟩
section
variable {prog : Program} {w : World} {A : Around} {E : Value → Shared → Prop} {s : Shared} {K : Frag}
def ledger (h : Heap) (L d : Addr) : List (Addr × Obj) := (List.range h.objs.size).filterMap fun a => if a = L ∨ a = d then none else (h.get? a).map fun o => (a, o)
end
end Att
namespace L2
open PySem PySem.Spec PyProof.Rows
theorem vals_ints : ∀ {vs : List Value} {ns : List Int}, IntsAre vs ns → Vals (ns.map V.int) vs
  | _, _, .nil => .nil
  | _, _, .cons n t h => .cons ⟨t, rfl⟩ (vals_ints h)
def Only (H : Hp) : Prop := ∀ b, H b = none ∨ ∃ o xs, H b = some (.frz o (.lst xs))
theorem law_call {P : Program} {w : World} {K : PySem.W.Frag} {mg mb : Str → Option Value} {CX : CXT} {k : Nat} {fa a : Addr} {fd : FuncData} {x : Str} {sp : Sp} {s₁ : Shared} {vs : List Value} {ns : List Int}
    (KX : K.In s₁.heap) (hns : s₁.heap.Ns mainGlobals mg) (hb : s₁.heap.Ns builtinsNs mb) (hbb : ∀ x : Str, x ≠ "__name__" → mb x = bootBuiltins x) (hlim : s₁.heap.NoLimit) (hg : s₁.gens = #[])
    (ha : s₁.heap.get? a = some { cls := .type "list", data := .seq vs.toArray }) (hi : IntsAre vs ns) (hl : ns.length ≤ sizeLine) (hr : Room k callerA)
    (F : ∀ base : Heap, K.In base → base.Ns mainGlobals mg → FnOk P w K mg base CX k fa fd [x] sp) (hbind : ∀ (s : Shared) (u : Value), BindsTo s fd ⟨[u], []⟩ [(x, u)])
    (hsp : ∀ H : Hp, Only H → SqL K H a (ns.map V.int) → sp [.ref a] H (fun v _ => v = .bl true) fun _ _ _ => False)
    (hCX : ∀ H e s', CX [] H s₁ (fun _ _ _ => False) e s' → False) :
    codeAny (model P w) callerA (.call (.ref fa) ⟨[.ref a], []⟩) (fun r s' => r = .ok (.ret (.bool true)) ∧ OldK s₁.heap s'.heap ∧ s'.os = s₁.os ∧ AllBare s'.gens) s₁ := by
  have rv := vals_ints hi
  have lenV := hi.length
  -- from an abstract heap in which nothing but the script may be tracked
  have core : ∀ H : Hp, Only H → SqL K H a (ns.map V.int) → HOk P w H s₁.heap → (∀ b, H b ≠ none → b = a) → (H a ≠ none → K.lookup a = none) →
      codeAny (model P w) callerA (.call (.ref fa) ⟨[.ref a], []⟩) (fun r s' => r = .ok (.ret (.bool true)) ∧ OldK s₁.heap s'.heap ∧ s'.os = s₁.os ∧ AllBare s'.gens) s₁ := by
    intro H hO hS hok hA hK
    have base_of : ∀ {b : Addr} {o : Obj}, s₁.heap.get? b = some o → H b = none → (hidT s₁.heap H).get? b = some o := fun e n => hidT_get e n
    have noA : ∀ {b : Addr} {o : Obj} {es : Array DictEntry} {ep : Nat}, s₁.heap.get? b = some o → o.data = .dict es ep → H b = none := fun {b o es ep} e d => by
      cases q : H b with
      | none => rfl
      | some u =>
        have e' : b = a := hA b (by rw [q]; simp)
        subst e'
        rw [ha] at e; cases e
        have d' : Data.seq vs.toArray _ = Data.dict es ep := d
        cases d'
    have nsK : ∀ {b : Addr} {m : Str → Option Value}, s₁.heap.Ns b m → (hidT s₁.heap H).Ns b m := fun {b m} ⟨o, es, ep, e, d, r⟩ => ⟨o, es, ep, base_of e (noA e d), d, r⟩
    have hKb : K.In (hidT s₁.heap H) := fun b o e => base_of (KX b o e) (by
      cases q : H b with
      | none => rfl
      | some u =>
        have e' : b = a := hA b (by rw [q]; simp)
        subst e'
        rw [hK (by rw [q]; simp)] at e; cases e)
    have hM : Mod K mg (hidT s₁.heap H) := ⟨hKb, nsK hns, ⟨mb, nsK hb, hbb⟩, let ⟨mc, h1, h2⟩ := hlim; ⟨mc, nsK h1, h2⟩⟩
    have e0 : Env0 P w K mg (hidT s₁.heap H) callerA [] s₁ H := ⟨rfl, hM, fun b o e => of_hidT e, Nat.le_of_eq (hidT_size _ _), trivial, fun b hb => absurd (show b ∈ ([] : List Addr) from hb) (by simp), hok, .of_eq hg⟩
    refine codeAny_mono ((F _ hKb (nsK hns)).run callerA [] s₁ H ⟨[.ref a], []⟩ [.ref a] [.ref a] _ _ hr e0 (hbind s₁ (.ref a)) (.cons rfl .nil) (hsp H hO hS)) fun r s' h => ?_
    cases r with
    | error e => exact (hCX H e s' h).elim
    | ok fl =>
      cases fl with
      | next => exact False.elim h
      | brk => exact False.elim h
      | cont => exact False.elim h
      | ret u =>
        obtain ⟨v, H', os, bare, un, hok', r', q⟩ := h
        have q' : v = .bl true := q
        subst q'
        obtain rfl : u = Value.bool true := r'
        refine ⟨rfl, OldK.of_keep fun b o e => ?_, os, bare⟩
        cases q : H b with
        | none => exact un.keep b o e q (by intro z; exact absurd (show b ∈ ([] : List Addr) from z) (by simp)) (by simp)
        | some u =>
          rcases hO b with z | ⟨ob, xs, z⟩
          · rw [q] at z; cases z
          · have z2 := un.frzs b ob _ z
            obtain ⟨e1, _⟩ := hok b _ z
            obtain ⟨e2, _⟩ := hok' b _ z2
            rw [e] at e1; cases e1
            exact e2
  cases hk : K.lookup a with
  | some o =>
    -- the script is one of the module's own objects
    have e := KX a o hk
    rw [ha] at e
    cases e
    refine core (fun _ => none) (fun _ => .inl rfl) (.inr ⟨_, vs.toArray, _, hk, rfl, rfl, rfl, by rw [List.size_toArray, lenV]; exact hl, by simpa using rv⟩) (fun b u z => by have z' : (none : Option HO) = some u := z; cases z') (fun b z => absurd rfl z) fun z => absurd rfl z
  | none =>
    refine core (fun b => if b = a then some (.frz { cls := .type "list", data := .seq vs.toArray } (.lst (ns.map V.int))) else none) (fun b => ?_) (.inl (.inr ⟨{ cls := .type "list", data := .seq vs.toArray }, if_pos rfl⟩)) (fun b u z => ?_) (fun b z => ?_) fun _ => hk
    · by_cases hb : b = a
      · exact .inr ⟨_, _, if_pos hb⟩
      · exact .inl (if_neg hb)
    · by_cases hb : b = a
      · have z' := (if_pos hb).symm.trans z
        cases z'
        subst hb
        exact ⟨ha, by rw [List.length_map]; exact hl, vs, _, rv, ha⟩
      · have z' := (if_neg hb).symm.trans z
        cases z'
    · by_cases hb : b = a
      · exact hb
      · exact absurd (if_neg hb) z
end L2
namespace L2
open PySem PySem.Spec PyProof.Rows
theorem walk_of {l : PySem.W.OpenLaw} {n k : Nat} {q : Program} {loose : List Str} {XP : (Str → Option Value) → Heap → Prop} {YP : World → Heap → Prop} {d : DefRec} {K : Params → PySem.W.Frag} {CX : World → CXT} {sp : World → Sp} {x : Str}
    (hn : l.most = some n) (hn2 : n ≤ sizeLine) (hdf : d.params.defaults = []) (hr : Room k callerA)
    (hY : ∀ (w : World) (h : Heap), YP w h → (K w.params).In h)
    (F : ∀ (w : World) (mg : Str → Option Value) (fa : Addr) (h : Heap), (K w.params).In h → h.Ns mainGlobals mg → mg d.name = some (.ref fa) →
      ∃ fd : FuncData, (∀ (s : Shared) (u : Value), BindsTo s fd ⟨[u], []⟩ [(x, u)]) ∧
        ∀ base : Heap, (K w.params).In base → base.Ns mainGlobals mg → FnOk l.prog w (K w.params) mg base (CX w) k fa fd [x] (sp w))
    (hsp : ∀ (w : World) (H : Hp) (a : Addr) (ns : List Int), ns.length ≤ n → Only H → SqL (K w.params) H a (ns.map V.int) → sp w [.ref a] H (fun v _ => v = .bl true) fun _ _ _ => False)
    (hCX : ∀ (w : World) (H : Hp) (s : Shared) (e : Value) (s' : Shared), CX w [] H s (fun _ _ _ => False) e s' → False) :
    PySem.W.WalkO q loose XP YP l.row.toRowW d [] (fun f vs => PySem.call f vs) := by
  refine Att.attach_call hn hdf fun w s₀ s₁ mg mb fa o pm cd doc a vs ns G Y ho hd hcd hmg hobj hints hlen hg => ?_
  have KX := hY w _ Y
  obtain ⟨fd, hb, hF⟩ := F w mg fa _ KX G.T.g hmg
  exact law_call KX G.T.g G.T.b G.T.builtins G.T.nolimit hg hobj hints (Nat.le_trans hlen hn2) hr hF hb (fun H hO hS => hsp w H a ns hlen hO hS) fun H e s' => hCX w H s₁ e s'
end L2
namespace L2
open PySem PySem.Spec PyProof.Rows
def defArgs (s : Stmt) : Arguments := match s with
  | .FunctionDef _ a _ _ _ _ _ _ _ _ => a
  | _ => { posonlyargs := [], args := [], vararg := none, kwonlyargs := [], kw_defaults := [], kwarg := none, defaults := [] }
def defBody (s : Stmt) : List Stmt := match s with
  | .FunctionDef _ _ b _ _ _ _ _ _ _ => b
  | _ => []
def defScope (s : Stmt) : Scope := match s with
  | .FunctionDef _ _ _ _ _ _ sc _ _ _ => sc
  | _ => { kind := .function, names := [], isGenerator := false, isCoroutine := false }
abbrev CX0 : CXT := fun _ _ _ _ _ _ => False
abbrev E0 : XK := fun _ _ _ => False
theorem pass0 {X : Cx} : Passes CX0 X E0 := fun _ _ _ _ _ _ _ h => h.elim
structure Fun (K : PySem.W.Frag) (x qual : Str) (st : Stmt) (f : Addr) (fd : FuncData) : Prop where
  ex : ∃ (oc : Value) (od : Option Addr) (kV doc pm : Value) (an : Option Addr) (cdv ct : Value) (osl : Array (Option Value)),
    fd = PySem.W.fnOf x qual (defArgs st) (defBody st) (defScope st) .none kV doc pm an cdv ct ∧ K.lookup f = some ⟨oc, od, .func fd, osl⟩ ∧ PySem.W.codeIn K cdv qual = true
  kp : PySem.W.keepIn K (.ref f) = true
section
variable {P : Program} {w : World} {K : PySem.W.Frag} {mg : Str → Option Value} {base : Heap}
theorem Fun.ok {x qual : Str} {st : Stmt} {f : Addr} {fd : FuncData} {N ps : List Str} {k : Nat} {sp : Sp} (F : Fun K x qual st f fd) (S : FnScope N ps (defScope st)) (len : ∀ vs H Q E, sp vs H Q E → vs.length = ps.length)
    (hbody : ∀ (cdv : Value) (A : Around) (outer : List Env) (s : Shared) (H : Hp) (vs : List V) (Q : VK) (E : XK), Room k (A.deeper (envOfC qual (defScope st) s.heap.objs.size f cdv)) → sp vs H Q E →
      ∃ t, PSs (cxOf CX0 P w K mg base N qual (defScope st) f cdv A outer s H E).nox (defBody st) t ∧ t { nx := fun _ H' => Q .non H', rt := Q } (start N vs) H) : FnOk P w K mg base CX0 (k + 1) f fd ps sp := by
  obtain ⟨oc, od, kV, doc, pm, an, cdv, ct, osl, rfl, lk, hcd⟩ := F.ex
  refine fn_of lk hcd S len fun A outer s H vs Q E hr hsp => ?_
  obtain ⟨t, h, q⟩ := hbody cdv A outer s H vs Q E hr hsp
  exact ⟨t, h.nox, q⟩
theorem Fun.binds {x qual : Str} {st : Stmt} {f : Addr} {fd : FuncData} {ps : List Str} (F : Fun K x qual st f fd)
    (h : ∀ (kV doc pm : Value) (an : Option Addr) (cdv ct : Value) (us : List Value), us.length = ps.length → bindArgs (PySem.W.fnOf x qual (defArgs st) (defBody st) (defScope st) .none kV doc pm an cdv ct) ⟨us, []⟩ = pure (ps.zip us)) : Binds K fd ps [] := by
  obtain ⟨oc, od, kV, doc, pm, an, cdv, ct, osl, rfl, lk, hcd⟩ := F.ex
  exact .all (h kV doc pm an cdv ct)
theorem fun_mk {x qual : Str} {st : Stmt} {f : Addr} {oc : Value} {od an : Option Addr} {osl : Array (Option Value)} {kV doc pm cdv ct : Value} (l : K.lookup f = some ⟨oc, od, .func (PySem.W.fnOf x qual (defArgs st) (defBody st) (defScope st) .none kV doc pm an cdv ct), osl⟩)
    (c : PySem.W.codeIn K cdv qual = true) (k : PySem.W.keepIn K (.ref f) = true) : Fun K x qual st f (PySem.W.fnOf x qual (defArgs st) (defBody st) (defScope st) .none kV doc pm an cdv ct) := ⟨⟨oc, od, kV, doc, pm, an, cdv, ct, osl, rfl, l, c⟩, k⟩
end
section
variable {X : Cx}
theorem pv (i : Nat) {x : Str} {pos : Pos} (hN : X.N[i]? = some x := by rfl) (hv : Vis X.env.scope x := by first | exact Or.inl rfl | exact Or.inr (Or.inl rfl) | exact Or.inr (Or.inr rfl)) (hd : (x == ("__debug__" : Str)) = false := by decide)
    (hcd : (x == ("__classdict__" : Str)) = false := by decide) : PE X (.Name x pos) (tVar i) := pe_var hN hv hd hcd
end
def Same (H H' : Hp) : Prop := ∀ b o, H b = some o → H' b = some o
theorem Same.refl (H : Hp) : Same H H := fun _ _ h => h
theorem Same.trans {H H1 H2 : Hp} (a : Same H H1) (b : Same H1 H2) : Same H H2 := fun c o h => b c o (a c o h)
theorem Same.free {H H' : Hp} (e : Same H H') {l : Addr} (h : H' l = Option.none) : H l = Option.none := by
  cases q : H l with
  | none => rfl
  | some o =>
    rw [e l o q] at h
    cases h
theorem Same.seq {K : PySem.W.Frag} {H H' : Hp} {a : Addr} {xs : List V} (e : Same H H') (h : SqL K H a xs) : SqL K H' a xs := by
  rcases h with (h | ⟨o, h⟩) | h
  · exact .inl (.inl (e _ _ h))
  · exact .inl (.inr ⟨o, e _ _ h⟩)
  · exact .inr h
end L2
set_option Elab.async false
set_option linter.all false
set_option maxRecDepth 100000
set_option maxHeartbeats 4000000
namespace L2
open PySem PySem.Spec PyProof.Rows
theorem loop_comp {prog : Program} {w : World} {A : Around} {R : Result → Shared → Prop} {s : Shared} {elt target iter : Expr} {ifs : List Expr} {scope : Scope} {pos : Pos} {it acc : Value} {env : Env} (I : Nat → Shared → Prop)
    (turn : ∀ n s, I n s → wpAny (model prog w) A (pyNext it) (fun r s₁ => match r with
      | none => R (.ok .next) s₁
      | some v => wpAny (model prog w) A (letOwnedTupleGo target it v) (fun _ s₁' => wpAny (model prog w) A (assign target env v) (fun _ s₂ =>
          wpAny (model prog w) A (forIn ifs true fun c r => if r = true then do let ok ← isTrue c env (eval c env); pure (ForInStep.yield ok) else pure (ForInStep.yield r)) (fun ok s₃ =>
            if ok = true then wpAny (model prog w) A (eval elt env) (fun x s₄ =>
              wpAny (model prog w) A (call (.builtin "list.append") [acc, x]) (fun _ s₅ => ∃ m, m < n ∧ I m s₅) (fun _ _ => False) s₄) (fun _ _ => False) s₃
            else ∃ m, m < n ∧ I m s₃) (fun _ _ => False) s₂) (fun _ _ => False) s₁') (fun _ _ => False) s₁) (fun _ _ => False) s)
    (n : Nat) (h : I n s) :
    codeAny (model prog w) A (.compLoop (.ListComp elt [⟨target, iter, ifs, 0⟩] scope pos) 0 it acc env) R s := by
  refine codeAny_loop rfl I (fun n s hI => ?_) n h
  show wpAny _ A ((compTurn (.ListComp elt [⟨target, iter, ifs, 0⟩] scope pos) 0 it acc env).onRaise (fun x => do noteFrame x env; theTreesLotGoes x)) _ _ s
  refine wpAny_noted ?_
  rw [compTurn_list]
  refine wpAny_bind (wpAny_standAt (wpAny_bind (wpAny_mono (turn n s hI) (fun r s₁ h₁ => ?_) fun _ _ h' => h'.elim)))
  cases r with
  | none => exact wpAny_pure h₁
  | some v =>
    refine wpAny_bind (wpAny_mono h₁ (fun _ s₁' h₁' => ?_) fun _ _ h' => h'.elim)
    refine wpAny_bind (wpAny_mono h₁' (fun _ s₂ h₂ => wpAny_bind (wpAny_mono h₂ (fun ok s₃ h₃ => ?_) fun _ _ h' => h'.elim)) fun _ _ h' => h'.elim)
    cases ok with
    | false => exact wpAny_pure ⟨rfl, h₃⟩
    | true =>
      exact wpAny_bind (wpAny_bind (wpAny_mono h₃ (fun x s₄ h₄ => wpAny_bind (wpAny_mono h₄ (fun _ s₅ h₅ => wpAny_pure (wpAny_pure ⟨rfl, h₅⟩)) fun _ _ h' => h'.elim)) fun _ _ h' => h'.elim))
def clOf (names : List (Str × NameKind)) (env : Env) (cs : List (Str × Addr)) : List (Str × Addr) :=
  names.foldl (fun cs p => if p.2 = .free then (match env.cells.lookup p.1 with | some c => (p.1, c) :: cs | none => cs) else cs) cs
theorem closure_loop {env : Env} : ∀ (names : List (Str × NameKind)) (cs : List (Str × Addr)), (∀ y ∈ names, y.2 = .free → ∃ c, env.cells.lookup y.1 = some c) →
    (forIn names cs fun x r => (if (x.2 == NameKind.free) = true then do let a ← cellOf env x.1; pure (ForInStep.yield ((x.1, a) :: r)) else pure (ForInStep.yield r) : Sem _)) = pure (clOf names env cs)
  | [], cs, _ => by simp [clOf]
  | (n, k) :: r, cs, h => by
    have ih := fun cs => closure_loop r cs fun y hy => h y (List.mem_cons_of_mem _ hy)
    simp only [List.forIn_cons]
    by_cases hk : k = .free
    · subst hk
      obtain ⟨c, e⟩ := h (n, .free) List.mem_cons_self rfl
      have e' : env.cells.lookup n = some c := e
      have ec : cellOf env n = pure c := by unfold cellOf; rw [e']
      simp only [beq_self_eq_true, if_true, ec, pure_bind]
      rw [ih]
      simp [clOf, e']
    · have hb : (k == NameKind.free) = false := by simpa using hk
      simp only [hb, Bool.false_eq_true, if_false, pure_bind]
      rw [ih]
      simp [clOf, hk]
theorem closureFor_eq {scope : Scope} {env : Env} (h : ∀ y ∈ scope.names, y.2 = .free → ∃ c, env.cells.lookup y.1 = some c) : closureFor scope env = pure (clOf scope.names env []) := by
  unfold closureFor
  have := closure_loop scope.names [] h
  simp only [bind_pure]
  exact this
theorem clOf_mem {env : Env} : ∀ (names : List (Str × NameKind)) (cs : List (Str × Addr)) (x : Str) (c : Addr), (x, c) ∈ clOf names env cs → (x, c) ∈ cs ∨ env.cells.lookup x = some c
  | [], cs, x, c, h => .inl h
  | (n, k) :: r, cs, x, c, h => by
    have h' : (x, c) ∈ clOf r env (if k = .free then (match env.cells.lookup n with | some c => (n, c) :: cs | none => cs) else cs) := h
    rcases clOf_mem r _ x c h' with q | q
    · split at q
      · cases e : env.cells.lookup n with
        | none => rw [e] at q; exact .inl q
        | some d =>
          rw [e] at q
          rcases List.mem_cons.mp q with z | z
          · cases z; exact .inr e
          · exact .inl z
      · exact .inl q
    · exact .inr q
theorem clOf_keep {env : Env} : ∀ (names : List (Str × NameKind)) (cs : List (Str × Addr)) (x : Str), (∃ c, (x, c) ∈ cs) → ∃ c, (x, c) ∈ clOf names env cs
  | [], cs, x, h => h
  | (n, k) :: r, cs, x, ⟨c, h⟩ => by
    refine clOf_keep r _ x ?_
    dsimp only
    split
    · split
      · exact ⟨c, List.mem_cons_of_mem _ h⟩
      · exact ⟨c, h⟩
    · exact ⟨c, h⟩
theorem clOf_has {env : Env} : ∀ (names : List (Str × NameKind)) (cs : List (Str × Addr)) (x : Str), (x, NameKind.free) ∈ names → (∃ c, env.cells.lookup x = some c) → ∃ c, (x, c) ∈ clOf names env cs
  | [], _, _, h, _ => by simp at h
  | (n, k) :: r, cs, x, h, ⟨c, e⟩ => by
    rcases List.mem_cons.mp h with z | z
    · have e1 : x = n := congrArg Prod.fst z
      have e2 : NameKind.free = k := congrArg Prod.snd z
      subst e1 e2
      refine clOf_keep r _ x ⟨c, ?_⟩
      dsimp only
      rw [if_pos rfl, e]
      exact List.mem_cons_self
    · exact clOf_has r _ x z ⟨c, e⟩
theorem lookup_of_mem {β : Type} : ∀ (l : List (Str × β)) (x : Str) (c : β), (x, c) ∈ l → ∃ d, l.lookup x = some d
  | (n, d) :: r, x, c, h => by
    cases hx : x == n with
    | true => exact ⟨d, by simp [List.lookup_cons, hx]⟩
    | false =>
      simp only [List.lookup_cons, hx]
      rcases List.mem_cons.mp h with z | z
      · cases z; simp at hx
      · exact lookup_of_mem r x c z
theorem clOf_lookup {names : List (Str × NameKind)} {env : Env} {x : Str} {c : Addr} (h : (clOf names env []).lookup x = some c) : env.cells.lookup x = some c := by
  rcases clOf_mem names [] x c (PySem.mem_of_lookup h) with q | q
  · simp at q
  · exact q
theorem clOf_some {names : List (Str × NameKind)} {env : Env} {x : Str} {c : Addr} (h : (x, NameKind.free) ∈ names) (e : env.cells.lookup x = some c) : (clOf names env []).lookup x = some c := by
  obtain ⟨d, hd⟩ := clOf_has names [] x h ⟨c, e⟩
  obtain ⟨d', hd'⟩ := lookup_of_mem _ _ _ hd
  have := clOf_lookup hd'
  rw [e] at this
  cases this
  exact hd'
theorem lookup_relabel_free {env : Env} : ∀ {names : List (Str × NameKind)} {x : Str}, names.lookup x = some .free →
    (names.map fun (n, k) => if (k == NameKind.free && env.scope.kind == .function && env.kindOf n == some .cell) then (n, NameKind.cell) else (n, k)).lookup x = some .cell ∨
    (names.map fun (n, k) => if (k == NameKind.free && env.scope.kind == .function && env.kindOf n == some .cell) then (n, NameKind.cell) else (n, k)).lookup x = some .free
  | [], _, h => by simp at h
  | (n, k) :: r, x, h => by
    have ih := @lookup_relabel_free env r x
    show List.lookup x ((if (k == NameKind.free && env.scope.kind == .function && env.kindOf n == some .cell) = true then (n, NameKind.cell) else (n, k)) :: _) = _ ∨ List.lookup x ((if (k == NameKind.free && env.scope.kind == .function && env.kindOf n == some .cell) = true then (n, NameKind.cell) else (n, k)) :: _) = _
    by_cases hc : (k == NameKind.free && env.scope.kind == .function && env.kindOf n == some .cell) = true
    · rw [if_pos hc]
      cases hx : x == n with
      | true => left; simp [List.lookup_cons, hx]
      | false =>
        simp only [List.lookup_cons, hx] at h ⊢
        exact ih h
    · rw [if_neg hc]
      cases hx : x == n with
      | true =>
        simp only [List.lookup_cons, hx] at h
        cases h
        right; simp [List.lookup_cons, hx]
      | false =>
        simp only [List.lookup_cons, hx] at h ⊢
        exact ih h
structure CompScope (own : List Str) (caps : List Nat) (N : List Str) (sc scope : Scope) : Prop where
  kind : scope.kind = .function
  nocell : ∀ y ∈ scope.names, y.2 ≠ .cell
  loc : ∀ y ∈ scope.names, y.2 = .local → scope.names.lookup y.1 = some .local
  fr : ∀ y ∈ scope.names, y.2 = .free → sc.names.lookup y.1 = some .cell ∨ sc.names.lookup y.1 = some .free
  cap : ∀ i ∈ caps, i < N.length ∧ scope.names.lookup ((N[i]?).getD Str.empty) = some .free
def cxComp (X : Cx) (own : List Str) (caps : List Nat) (scope : Scope) (s : Shared) (H : Hp) (fp : List Addr) (C : Addr) : Cx :=
  { X with N := own ++ caps.map (fun i => (X.N[i]?).getD Str.empty), s₀ := s, H₀ := H, env := compEnvC scope (clOf scope.names X.env []) C X.env, outer := X.stack, ex := fp, fn := fun _ => false, pn := [], xe := fun _ _ => False }
def tau0 (n : Nat) (caps : List Nat) (σ : St) : St := List.replicate n none ++ caps.map fun i => (σ[i]?).join
section
variable {X : Cx} {pins : List (Addr × Obj)} {σ : St} {H : Hp} {s : Shared}
theorem free_of_kind {scope : Scope} {env : Env} (nc : ∀ y ∈ scope.names, y.2 ≠ .cell) {x : Str} {k : NameKind} (hk : k = .cell ∨ k = .free) (h : (relabel scope env).names.lookup x = some k) : (x, NameKind.free) ∈ scope.names := by
  have hm := PySem.mem_of_lookup h
  obtain ⟨⟨n, k0⟩, hy, e⟩ := List.mem_map.mp hm
  dsimp only at e
  split at e
  · rename_i hc
    simp only [Bool.and_eq_true, beq_iff_eq] at hc
    have e1 : n = x := congrArg Prod.fst e
    subst e1
    rw [hc.1.1] at hy
    exact hy
  · cases e
    rcases hk with z | z
    · subst z; exact absurd rfl (nc _ hy)
    · subst z; exact hy
theorem inv_comp {own : List Str} {caps : List Nat} {scope : Scope} {fp : List Addr} {D C : Addr} {o : Obj} {h1 : Heap} {tk : Nat} (I : Inv X pins σ H s) (S : CompScope own caps X.N X.env.scope scope)
    (f : ∀ b ∈ fp, FpOk X pins H b) (fl : ∀ b ∈ fp, b < s.heap.objs.size) (hD : s.heap.objs.size ≤ D) (hC : s.heap.objs.size ≤ C) (hDC : D ≠ C) (keep : ∀ b o, s.heap.get? b = some o → h1.get? b = some o)
    (hns : h1.Ns C fun _ => none) (hacc : h1.get? D = some o) (ho : ∀ v, o.data ≠ .cell v) :
    Inv (cxComp X own caps scope s H fp C) [(D, o)] (tau0 own.length caps σ) H { s with heap := h1, toks := tk } := by
  have sub : ∀ b ∈ frs X.stack, b < s.heap.objs.size := fun b hb => by
    rcases List.mem_cons.mp (I.stkSub b hb) with e | hb
    · rw [e]; exact I.lt
    · by_cases q : b < s.heap.objs.size
      · exact q
      · exact absurd hb (I.nofs (Nat.le_of_not_lt q))
  refine ⟨⟨I.ok.mod, S.kind, I.ok.glob, I.ok.blt, hC, fun x y c h1 h2 => I.ok.inj x y c (clOf_lookup h1) (clOf_lookup h2), fun x hx => ?_, fun x c z _ => absurd (show false = true from z) Bool.false_ne_true, I.ok.hd, I.ok.frames, .inl rfl,
      fun b hb => ⟨Nat.ne_of_lt (Nat.lt_of_lt_of_le (fl b hb) hC), fun x c e => (f b hb).2.2.2.2.1 x c (clOf_lookup e)⟩, I.bs, Nat.le_trans I.ok.bsz I.sz, fun b ob e hb => ?_, fun b hb hs => ?_, I.stack, I.stkFree⟩,
    rfl, I.bare, Un.kept keep, ⟨_, hns, fun i x v e1 e2 e3 => ?_⟩, fun x c e => ?_, I.hok.fresh hC, fun x c e => I.freeC x c (clOf_lookup e), fun p hp => ?_, I.hok.kept keep, ?_⟩
  · have hm : (x, NameKind.free) ∈ scope.names := by
      rcases hx with hx | hx
      · exact free_of_kind S.nocell (.inl rfl) hx
      · exact free_of_kind S.nocell (.inr rfl) hx
    obtain ⟨c, hc⟩ := I.ok.has x (S.fr _ hm rfl)
    exact ⟨c, clOf_some hm hc⟩
  · rcases (f b hb).2.2.2.1 with z | z
    · exact I.ok.noex b ob e z
    · exact absurd (Nat.lt_of_lt_of_le (Heap.lt_size e) (Nat.le_trans I.ok.bsz z)) (Nat.lt_irrefl _)
  · rcases List.mem_cons.mp (I.stkSub b hs) with e | e
    · exact (f b hb).2.1 e
    · exact (f b hb).2.2.1 e
  · have e2' : (List.replicate own.length (none : Option V) ++ caps.map fun i => (σ[i]?).join)[i]? = some (some v) := e2
    have e1' : (own ++ caps.map (fun i => (X.N[i]?).getD Str.empty))[i]? = some x := e1
    have hi : own.length ≤ i := by
      by_cases q : i < own.length
      · rw [List.getElem?_append_left (by simpa using q), List.getElem?_replicate, if_pos q] at e2'
        cases e2'
      · exact Nat.le_of_not_lt q
    rw [List.getElem?_append_right (by simpa using hi), List.length_replicate, List.getElem?_map] at e2'
    rw [List.getElem?_append_right hi, List.getElem?_map] at e1'
    cases ek : caps[i - own.length]? with
    | none => rw [ek] at e1'; cases e1'
    | some k =>
      rw [ek] at e1' e2'
      have ex : (X.N[k]?).getD Str.empty = x := Option.some.inj e1'
      have ev : (σ[k]?).join = some v := Option.some.inj e2'
      have ev' : σ[k]? = some (some v) := by
        cases q : σ[k]? with
        | none => rw [q] at ev; cases ev
        | some y => rw [q] at ev; exact congrArg some ev
      obtain ⟨hl, hf⟩ := S.cap k (List.mem_of_getElem? ek)
      have eN : X.N[k]? = some x := by
        rw [List.getElem?_eq_getElem hl] at ex ⊢
        exact congrArg some ex
      rw [ex] at hf
      have hm := PySem.mem_of_lookup hf
      have hfr := S.fr _ hm rfl
      obtain ⟨m, _, hl'⟩ := I.loc
      obtain ⟨u, ru, lk⟩ := hl' k x v eN ev' (.inr hfr)
      refine ⟨u, ru, .inr ⟨lookup_relabel_free hf, ?_⟩⟩
      rcases lk with ⟨kl, _⟩ | ⟨_, c, hc, ob, hob, hd⟩
      · have kl' : X.env.scope.names.lookup x = some .local := kl
        rcases hfr with z | z
        · have z' : X.env.scope.names.lookup x = some .cell := z
          rw [z'] at kl'; cases kl'
        · have z' : X.env.scope.names.lookup x = some .free := z
          rw [z'] at kl'; cases kl'
      · exact ⟨c, clOf_some hm hc, ob, keep c ob hob, hd⟩
  · obtain ⟨v, ob, hob, hd⟩ := I.cell x c (clOf_lookup e)
    exact ⟨v, ob, keep c ob hob, hd⟩
  · have e : p = (D, o) := by simpa using (show p ∈ [] ++ [(D, o)] from hp)
    subst e
    refine ⟨hacc, I.hok.fresh hD, hDC, fun z => ?_, ho⟩
    exact absurd (Nat.lt_of_lt_of_le (sub D z) hD) (Nat.lt_irrefl _)
  · show (tau0 own.length caps σ).length = (own ++ caps.map (fun i => (X.N[i]?).getD Str.empty)).length
    simp [tau0]
def PTs (X : Cx) (ifs : List Expr) (t : TT) : Prop :=
  ∀ (pins : List (Addr × Obj)) (s : Shared) (σ : St) (H : Hp) (Q : Bool → Hp → Prop), Inv X pins σ H s → t σ H Q →
    wpAny (model X.prog X.w) X.A (forIn ifs true fun c r => if r = true then do let ok ← isTrue c X.env (eval c X.env); pure (ForInStep.yield ok) else pure (ForInStep.yield r)) (TP X pins σ Q) X.xe s
def tYes : TT := fun _ H Q => Q true H
theorem pts_nil : PTs X [] tYes := fun _ s σ H Q I h => wpAny_tests_nil ⟨H, I, h⟩
def tComp (n : Nat) (caps : List Nat) (wi : TI) (g : TG) (tc : TT) (te : TE) : TE := fun σ H Q => wi σ H fun J H1 => ∃ W : Nat → Nat → St → List V → Hp → Prop, (∃ m, W 0 m (tau0 n caps σ) [] H1) ∧ ∀ i m τ acc H, W i m τ acc H →
  (J.stop i H ∧ acc.length ≤ sizeLine ∧ ∀ p, H p = none → Q (.ref p) (upd H p (.lst acc))) ∨
  (J.go i H ∧ acc.length < sizeLine ∧ ∀ x H', J.yld i H x H' → g x τ H' fun τ2 H2 => tc τ2 H2 fun b H3 => if b = true then te τ2 H3 fun y H4 => ∃ m', m' < m ∧ W (i + 1) m' τ2 (acc ++ [y]) H4 else ∃ m', m' < m ∧ W (i + 1) m' τ2 acc H3)
theorem HOk.track {P : Program} {w : World} {H : Hp} {h : Heap} {a : Addr} {o : HO} (x : HOk P w H h) (hn : H a = none) (new : ObjOk P w (upd H a o) h a o) : HOk P w (upd H a o) h := fun b u e => by
  by_cases hb : b = a
  · subst hb; rw [upd_same] at e; cases e; exact new
  · rw [upd_ne hb] at e
    exact (x b u e).stay (fun c v _ q => q) (fun c q => by rw [upd_ne (ne_of_none q hn)]; exact q) fun c xs q => by rw [upd_ne (ne_of_none q hn)]; exact q
theorem pe_comp {own : List Str} {caps : List Nat} {elt tg iter : Expr} {ifs : List Expr} {scope : Scope} {pos : Pos} {wi : TI} {g : TG} {tc : TT} {te : TE} (hc : X.calm = true) (S : CompScope own caps X.N X.env.scope scope) (hi : PI X tg iter wi)
    (hg : ∀ s H fp C, PG (cxComp X own caps scope s H fp C) tg g) (ht : ∀ s H fp C, PTs (cxComp X own caps scope s H fp C) ifs tc) (he : ∀ s H fp C, PE (cxComp X own caps scope s H fp C) elt te)
    (hs : ∀ x, foldedSetIterable iter X.env x = pure x := by intro _; rfl) : PE X (.ListComp elt [⟨tg, iter, ifs, 0⟩] scope pos) (tComp own.length caps wi g tc te) := by
  intro pins s σ H Q I h
  rw [eval_ListComp]
  refine wpAny_comprehension_free (use := none) (cl := clOf scope.names X.env []) rfl hs (closureFor_eq fun y hy e => I.ok.has y.1 (S.fr y hy e)) S.kind S.loc
    (wpAny_mono (hi pins s σ H _ I h) (fun v s1 h1 => thn h1 fun itv s2 h2 => ?_) fun _ _ e => e)
  obtain ⟨it, fp, tn, J, H2, e, I2, T, st2, f2, W, ⟨m0, w0⟩, turn⟩ := h2
  subst e
  refine wpAny_newObj_type (wpAny_newFunctionEnv S.nocell (by intro y hy; simp at hy) (fun h₁ hns₁ hsb₁ => ?_) S.kind)
  dsimp only at hns₁ hsb₁ ⊢
  generalize hH2 : s2.heap.push { cls := .type "list", dict := none, data := .seq ([] : List Value).toArray } = G at hns₁ hsb₁ ⊢
  have hG : G.objs.size = s2.heap.objs.size + 1 := by rw [← hH2, Heap.size_push]
  have hDC : s2.heap.objs.size ≠ G.objs.size := by rw [hG]; exact Nat.ne_of_lt (Nat.lt_succ_self _)
  have hCle : s2.heap.objs.size ≤ G.objs.size := by rw [hG]; exact Nat.le_succ _
  have below : ∀ b, b < s2.heap.objs.size → b ≠ G.objs.size := fun b hb => by rw [hG]; exact Nat.ne_of_lt (Nat.lt_succ_of_lt hb)
  have old : ∀ b o, s2.heap.get? b = some o → h₁.get? b = some o := fun b o e => hsb₁.extBut b o (below b (Heap.lt_size e)) (Heap.get?_push_of_some _ (hH2 ▸ Heap.get?_push_of_some _ e))
  have hacc : h₁.get? s2.heap.objs.size = some { cls := .type "list", dict := none, data := .seq ([] : List Value).toArray } := hsb₁.extBut _ _ hDC (Heap.get?_push_of_some _ (hH2 ▸ Heap.get?_push_size _ rfl))
  have fl : ∀ b ∈ fp, b < s2.heap.objs.size := fun b hb => let ⟨o, e, _⟩ := T.obj _ _ st2 b hb; Heap.lt_size e
  have hns₁' : h₁.Ns G.objs.size fun _ => none := hns₁
  have I4 := inv_comp (tk := s2.toks + ([] : List (Str × Value)).length) I2 S f2 fl (Nat.le_refl _) hCle hDC old hns₁' hacc (fun v z => nomatch z)
  have st4 : tn 0 h₁ := T.keep _ _ _ st2 fun b _ o e => old b o e
  generalize hs4 : ({ s2 with heap := h₁, toks := s2.toks + ([] : List (Str × Value)).length } : Shared) = s4 at I4 ⊢
  have e4 : s4.heap = h₁ := by rw [← hs4]
  rw [← e4] at st4
  -- the loop
  have loop : codeAny (model X.prog X.w) X.A (.compLoop (.ListComp elt [⟨tg, iter, ifs, 0⟩] scope pos) 0 (.ref it) (.ref s2.heap.objs.size) (compEnvC scope (clOf scope.names X.env []) G.objs.size X.env))
      (compPost (model X.prog X.w) X.A X.xe none (EP X pins σ Q) (.ref s2.heap.objs.size) G.objs.size) s4 := by
    let Y := cxComp X own caps scope s2 H2 fp G.objs.size
    have stat : ∀ {H' : Hp} {its : List Value} {n : Nat}, (∀ b ∈ fp, H' b = none) → ∀ b ∈ fp, FpOk Y [(s2.heap.objs.size, ({ cls := .type "list", data := .seq its.toArray n } : Obj))] H' b := fun {H' its n} hn b hb => by
      refine ⟨hn b hb, below b (fl b hb), fun z => ?_, .inl hb, fun x c e => (f2 b hb).2.2.2.2.1 x c (clOf_lookup e), fun p hp => ?_⟩
      · rcases List.mem_cons.mp (I2.stkSub b z) with e | e
        · exact (f2 b hb).2.1 e
        · exact (f2 b hb).2.2.1 e
      · have e : p = (s2.heap.objs.size, ({ cls := .type "list", data := .seq its.toArray n } : Obj)) := by simpa using (show p ∈ [] ++ [_] from hp)
        subst e
        exact Nat.ne_of_gt (fl b hb)
    refine loop_comp (fun n s' => ∃ i τ acc its k H', Inv Y [(s2.heap.objs.size, ({ cls := .type "list", data := .seq its.toArray k } : Obj))] τ H' s' ∧ tn i s'.heap ∧ (∀ b ∈ fp, H' b = none) ∧ Vals acc its ∧ W i n τ acc H') ?_ m0
      ⟨0, _, [], [], 0, H2, I4, st4, fun b hb => (f2 b hb).1, .nil, w0⟩
    rintro n s5 ⟨i, τ, acc, its, k, H5, I5, st5, fr5, rv5, w5⟩
    rcases turn i n τ acc H5 w5 with ⟨stop, hz, q⟩ | ⟨go, hz, step⟩
    · refine thn (T.done Y rfl rfl rfl hc i _ s5 τ H5 (fun _ _ => False) I5 (stat fr5) st5 stop) fun r s6 ⟨hr, I6⟩ => ?_
      subst hr
      obtain ⟨eD, nD, _, _, _⟩ := I6.pin _ (List.mem_append_right _ (List.mem_singleton.mpr rfl))
      obtain ⟨m6, hm6, _⟩ := I6.loc
      refine ⟨m6, hm6, fun h' hsb => ?_⟩
      have hC6 : H5 G.objs.size = none := I6.free
      have eD' : h'.get? s2.heap.objs.size = some { cls := .type "list", data := .seq its.toArray k } := hsb.extBut _ _ hDC eD
      have hok6 : HOk X.prog X.w H5 h' := fun b u e => (I6.hok b u e).stay (fun c v hcv qv => hsb.extBut c v (by
          rcases hcv with z | z
          · subst z; exact ne_of_none e hC6
          · exact ne_of_none z hC6) qv) (fun _ q => q) fun _ _ q => q
      refine ⟨.ref s2.heap.objs.size, _, ?_, rfl, q _ nD⟩
      have ub := I6.base
      refine I2.call' (ch := fp) (s' := { s6 with heap := h' }) I6.os ⟨fun b o e n' hb hx => hsb.extBut b o (below b (Heap.lt_size e)) (ub.keep b o e n' hb hx), fun b o e n' hb hx => ?_, fun b o e n' hx => ?_, fun b o e hx => ?_, fun b xs e => ?_, fun b o u e => ?_, fun b ps e => ?_⟩
        (hok6.track nD ⟨hz, its, k, rv5, eD'⟩) I6.bare fun b hb => ⟨(f2 b hb).2.2.2.1, (f2 b hb).2.1, (f2 b hb).2.2.2.2.1, (f2 b hb).2.2.2.2.2⟩
      · obtain ⟨sl, e'⟩ := ub.slot b o e n' hb hx
        exact ⟨sl, hsb.extBut b _ (below b (Heap.lt_size e)) e'⟩
      · rw [upd_ne (Nat.ne_of_lt (Heap.lt_size e))]
        exact ub.free b o e n' hx
      · obtain ⟨o', e'⟩ := ub.there b o e hx
        exact ⟨o', hsb.extBut b _ (below b (Heap.lt_size e)) e'⟩
      · have z := ub.tups b xs e
        rw [upd_ne (ne_of_none z nD)]; exact z
      · have z := ub.frzs b o u e
        rw [upd_ne (ne_of_none z nD)]; exact z
      · obtain ⟨more, z⟩ := ub.tbls b ps e
        exact ⟨more, by rw [upd_ne (ne_of_none z nD)]; exact z⟩
    · refine thn (T.item Y rfl rfl rfl hc i _ s5 τ H5 (fun _ _ => False) I5 (stat fr5) st5 go) fun r s6 ⟨u, hr, h6⟩ => ?_
      subst hr
      refine thn h6 fun _ s7 ⟨x, H7, I7, r7, y7, st7, fr7⟩ => ?_
      have I7' := I7.pinned (stat fr7) (T.obj _ _ st7)
      refine thn (hg s2 H2 fp G.objs.size _ s7 τ H7 x u _ I7' r7 (step x H7 y7)) fun _ s8 ⟨τ8, H8, I8, q8⟩ => ?_
      refine thn (ht s2 H2 fp G.objs.size _ s8 τ8 H8 _ I8 q8) fun ok s9 ⟨H9, I9, q9⟩ => ?_
      -- the iterator's state behind the turn
      have back : ∀ {s' : Shared} {τ' : St} {H' : Hp}, Inv Y ([(s2.heap.objs.size, ({ cls := .type "list", data := .seq its.toArray k } : Obj))] ++ pinsAt fp s7.heap) τ' H' s' → (tn (i + 1) s'.heap ∧ ∀ b ∈ fp, H' b = none) := fun {s' τ' H'} Ib =>
        ⟨T.keep _ _ _ st7 fun b hb o e => (Ib.pin (b, o) (List.mem_append_right _ (List.mem_append_right _ (mem_pinsAt hb e)))).1, fun b hb => by
          obtain ⟨o, e, d⟩ := T.obj _ _ st7 b hb
          exact (Ib.pin (b, o) (List.mem_append_right _ (List.mem_append_right _ (mem_pinsAt hb e)))).2.1⟩
      cases ok with
      | false =>
        obtain ⟨m', hm', w'⟩ := q9
        obtain ⟨sb, fb⟩ := back I9
        exact ⟨m', hm', i + 1, τ8, acc, its, k, H9, I9.unpinned, sb, fb, rv5, w'⟩
      | true =>
        refine thn (he s2 H2 fp G.objs.size _ s9 τ8 H9 _ I9 q9) fun y s10 ⟨yv, H10, I10, r10, q10⟩ => ?_
        obtain ⟨m', hm', w'⟩ := q10
        obtain ⟨sb, fb⟩ := back I10
        obtain ⟨eD, nD, neD, nfD, _⟩ := I10.pin (s2.heap.objs.size, _) (List.mem_append_right _ (List.mem_append_left _ (List.mem_singleton.mpr rfl)))
        have hl : acc.length = its.length := rv5.length
        refine call_meets F.slot_list_append ⟨_, eD, rfl⟩ F.entry_list_append (F.args_list_append_2 _ _) (PySem.list_append s2.heap.objs.size its.toArray k y (by rw [List.size_toArray]; omega)) ⟨eD, ?_⟩
        have q := PySem.IsL.update eD (fun a : Array Value => a.push y)
        have Iu : Inv Y [] τ8 H10 s10 := I10.pins_of fun p hp => nomatch hp
        have It := Iu.turned (t' := s10.toks) (it := s2.heap.objs.size) (h' := s10.heap.update s2.heap.objs.size (Obj.mapSeq (fun a : Array Value => a.push y))) (fun b o hb e => (Heap.get?_update_other s10.heap _ (Ne.symm hb)).trans e) nD neD (.inr (Nat.le_refl _))
          (fun x c e z => by
            obtain ⟨v, ob, hob, _⟩ := I2.cell x c (clOf_lookup e)
            exact absurd (Heap.lt_size hob) (by rw [z]; exact Nat.lt_irrefl _)) (fun p hp => nomatch hp)
        have It' := It.pins_of (pins' := [(s2.heap.objs.size, ({ cls := .type "list", data := .seq (its ++ [y]).toArray (k + 1) } : Obj))]) fun p hp => by
          have e : p = _ := List.mem_singleton.mp hp
          subst e
          exact ⟨by simpa using q, nD, neD, nfD, fun v z => nomatch z⟩
        refine ⟨m', hm', i + 1, τ8, acc ++ [yv], its ++ [y], _, H10, It', T.keep _ _ _ sb fun b hb o e => (Heap.get?_update_other s10.heap _ (Nat.ne_of_gt (fl b hb))).trans e, fb, rv5.append (.cons r10 .nil), w'⟩
  exact codeAny_compStart_list loop (T.self _ 0 s4 _ _ st4 loop)
end
end L2
set_option Elab.async false
set_option linter.all false
set_option maxRecDepth 100000
set_option maxHeartbeats 4000000
namespace L2
open PySem PySem.Spec PyProof.Rows
open AutoSeq1 (wpAny_loadPart')
section
variable {prog : Program} {w : World} {A : Around} {E : Value → Shared → Prop} {s : Shared}
theorem nxT_in {it t : Addr} {i : Nat} {items} {x : Value} {Q : Value → Shared → Prop} (hit : s.heap.IsTupleIter it t i) (ht : s.heap.IsTuple t items) (hx : items[i]? = some x)
    (hQ : ∀ h', h'.IsTupleIter it t (i + 1) → Heap.SameBut it s.heap h' → Q x { s with heap := h' }) : wpAny (model prog w) A (Builtin.SmallTypes.nextOf (.ref it)) Q E s := by
  have ty := hit.typeIs (s := s)
  obtain ⟨o, ho, hc, hd⟩ := hit
  obtain ⟨ot, hot, _, n, hdt⟩ := ht
  have new := hQ _ ⟨_, Heap.get?_update_self (Obj.mapFields (·.set! 1 (rawInt (i + 1)))) ho (Obj.isFreed_of_fields (Obj.data_mapFields hd _)), (Obj.cls_mapFields ..).trans hc, by rw [Obj.data_mapFields hd]; simp [rawInt]⟩ (Heap.SameBut.update ..)
  unfold Builtin.SmallTypes.nextOf
  refine wpAny_bind (wpAny_callSpecial?_slot ty F.slot_tuple_iterator_next (wpAny_call_entry F.slot_tuple_iterator_next ty F.entry_tuple_iterator_next ?_ (F.args_tuple_iterator_next_1 _)))
  unfold Builtin.«tuple_iterator.__next__»
  wp_walk using wpAny_field ho hd (x := .ref t) rfl, wpAny_field ho hd (x := .int i 0) rfl, wpAny_seqItems hot hdt
  simp only [Int.toNat_natCast, hx]
  wp_walk using wpAny_setField ho hd (by simp)
  exact ⟨x, rfl, wpAny_pure new⟩
theorem nxT_out {it t : Addr} {i : Nat} {items} {Q : Value → Shared → Prop} (hh : A.handled = none) (hit : s.heap.IsTupleIter it t i) (ht : s.heap.IsTuple t items) (hx : items[i]? = none)
    (hE : ∀ h' e, Heap.ExtBut it s.heap h' → (∃ o, h'.get? e = some o ∧ o.cls = .type "StopIteration") → E (.ref e) { s with heap := h' }) : wpAny (model prog w) A (Builtin.SmallTypes.nextOf (.ref it)) Q E s := by
  have ty := hit.typeIs (s := s)
  obtain ⟨o, ho, hc, hd⟩ := hit
  obtain ⟨ot, hot, _, n, hdt⟩ := ht
  have hh1 : A.in1.handled = none := hh
  unfold Builtin.SmallTypes.nextOf
  refine wpAny_bind (wpAny_callSpecial?_slot ty F.slot_tuple_iterator_next (wpAny_call_entry F.slot_tuple_iterator_next ty F.entry_tuple_iterator_next ?_ (F.args_tuple_iterator_next_1 _)))
  unfold Builtin.«tuple_iterator.__next__»
  wp_walk using wpAny_field ho hd (x := .ref t) rfl, wpAny_field ho hd (x := .int i 0) rfl, wpAny_seqItems hot hdt
  simp only [Int.toNat_natCast, hx]
  wp_walk using wpAny_setField ho hd (by simp)
  simp only [raiseNew]
  refine wpAny_bind (wpAny_handled ?_)
  rw [hh1]
  exact wpAny_bind (wpAny_pure (wpAny_throw (hE _ _ (((Heap.SameBut.update ..).extBut.push _).push _) ⟨_, Heap.get?_push_size _ rfl, rfl⟩)))
end
theorem drawsT {prog : Program} {w : World} {A : Around} (hh : A.handled = none) (it t : Addr) (hne : t ≠ it) (items : Array Value) :
    Draws prog w A it [it, t] items.size (fun i v => items[i]? = some v) (fun i h => h.IsTupleIter it t i ∧ h.IsTuple t items) where
  live := fun _ _ st => let ⟨⟨o, ho, _⟩, _⟩ := st; ⟨o, ho⟩
  frame := fun _ _ _ st hk => let ⟨⟨o, ho, r⟩, o', ho', r'⟩ := st; ⟨⟨o, hk it (by simp) o ho, r⟩, o', hk t (by simp) o' ho', r'⟩
  item := fun i s Q E hi st hQ => nxT_in st.1 st.2 (Array.getElem?_eq_getElem hi) fun h' a b => hQ _ h' s.toks (Array.getElem?_eq_getElem hi) ⟨a, st.2.extBut b.extBut hne⟩ b
  done := fun s Q E st hE => nxT_out hh st.1 st.2 (Array.getElem?_eq_none (Nat.le_refl _)) hE
section
variable {prog : Program} {w : World} {A : Around} {E : Value → Shared → Prop} {s : Shared}
end
end L2
set_option Elab.async false
set_option linter.all false
set_option maxRecDepth 100000
set_option maxHeartbeats 4000000
namespace L2
open PySem PySem.Spec PyProof.Rows
def tyS (H : Hp) : V → Option String
  | .non => some "NoneType"
  | .bl _ => some "bool"
  | .int _ => some "int"
  | .str _ => some "str"
  | .ref a => match H a with
    | some (.lst _) => some "list"
    | some (.frz _ (.lst _)) => some "list"
    | some (.tup _) => some "tuple"
    | some (.dK _) => some "dict"
    | _ => none
  | _ => none
theorem tyS_of {K : PySem.W.Frag} {H : Hp} {x : V} {t : String} (h : tyS H x = some t) : TyOf K H x (.type t) := by
  cases x with
  | non => cases h; exact .non
  | bl b => cases h; exact .bl b
  | int i => cases h; exact .int i
  | str x => cases h; exact .str x
  | ref a =>
    unfold tyS at h
    dsimp only at h
    split at h
    · rename_i e; cases h; exact .lst e
    · rename_i e; cases h; exact .frz e
    · rename_i e; cases h; exact .tup e
    · rename_i e; cases h; exact .dK e
    · cases h
  | _ => cases h
theorem tyS_six {H : Hp} {x : V} {t : String} (h : tyS H x = some t) : t = "NoneType" ∨ t = "bool" ∨ t = "int" ∨ t = "str" ∨ t = "list" ∨ t = "tuple" ∨ t = "dict" := by
  cases x with
  | ref a =>
    unfold tyS at h
    dsimp only at h
    split at h <;> cases h <;> simp
  | _ => cases h <;> simp
def isSub (t T : String) : Bool := t == T || (t == "bool" && T == "int")
theorem kit_of {K : PySem.W.Frag} {t T : String} (h : t = "NoneType" ∨ t = "bool" ∨ t = "int" ∨ t = "str" ∨ t = "list" ∨ t = "tuple" ∨ t = "dict") (hT : T = "int" ∨ T = "bool" ∨ T = "list" ∨ T = "tuple") : PySem.W.kitOne K (.type t) (.type T) = some (isSub t T) := by
  rcases h with rfl | rfl | rfl | rfl | rfl | rfl | rfl <;> rcases hT with rfl | rfl | rfl | rfl <;> first | rfl | decide +kernel
section
variable {X : Cx}
theorem call_isinst : CallR X (.builtin "isinstance") (fun xs H Q => ∃ x t T, xs = [x, .ty T] ∧ tyS H x = some t ∧ (T = "int" ∨ T = "bool" ∨ T = "list" ∨ T = "tuple") ∧ Q (.bl (isSub t T)) H) := by
  intro pins s σ H xs us Q I r h
  obtain ⟨x, t, T, rfl, ht, hT, q⟩ := h
  obtain ⟨u, w', rfl, r1, r2⟩ := vals2 r
  cases r2
  exact isinst_ok I r1 (tyS_of ht) (kit_of (tyS_six ht) hT) fun tk => ⟨.bl _, H, I.tok tk, rfl, q⟩
theorem op_fdivB : OpR X (binaryOp .FloorDiv) (rI (fun _ j => 0 < j ∧ j < 2 ^ 200) fun i j => .int (i / j)) := opI fun i j _ _ _ _ _ hc q => by
  have e : i.fdiv j = i / j := Int.fdiv_eq_ediv_of_nonneg _ (by omega)
  rw [← e] at q
  refine floordiv_int (by omega) q (.inl (PyProof.noPylong_of_log2 ?_))
  have h0 : j.natAbs ≠ 0 := by omega
  have h1 : j.natAbs < 2 ^ 200 := by omega
  have := (Nat.log2_lt h0).mpr h1
  omega
theorem op_neNil (hu : X.A.units + 64 < cLine) : OpR X (compareOp .NotEq) (fun x y H Q => ∃ a b xs, x = .ref a ∧ y = .ref b ∧ SqL X.K H a xs ∧ SqL X.K H b [] ∧ Q (.bl (!xs.isEmpty)) H) := by
  intro pins s σ H x y v u Q I rx ry h
  obtain ⟨a, b, xs, rfl, rfl, ha, hb, q⟩ := h
  cases rx; cases ry
  obtain ⟨its, r, p, _⟩ := I.list ha
  obtain ⟨its2, r2, p2, _⟩ := I.list hb
  cases r2
  cases r with
  | nil => exact SeqAt.RcNeAt.lists (e := fun _ => true) p.isList p2.isList rfl (by omega) (fun j h1 => absurd h1 (Nat.not_lt_zero _)) _ _ _ _ ⟨.bl _, H, I, rfl, q⟩
  | cons r1 rr => exact SeqAt.RcNeAt.lists_lengths p.isList p2.isList (by simp) (by omega) _ _ _ _ ⟨.bl _, H, I, rfl, q⟩
theorem op_eqUnit (hu : X.A.units + 64 < cLine) : OpR X (compareOp .Eq) (fun x y H Q => ∃ a b xs, x = .ref a ∧ y = .ref b ∧ SqT X.K H a xs ∧ SqT X.K H b [] ∧ Q (.bl xs.isEmpty) H) := by
  intro pins s σ H x y v u Q I rx ry h
  obtain ⟨a, b, xs, rfl, rfl, ha, hb, q⟩ := h
  cases rx; cases ry
  obtain ⟨its, r, p, _⟩ := I.tuple ha
  obtain ⟨its2, r2, p2, _⟩ := I.tuple hb
  cases r2
  have q' : Q (.bl ((List.range (min its.toArray.size ([] : List Value).toArray.size)).all (fun _ => true) && its.toArray.size == ([] : List Value).toArray.size)) H := by
    cases r with
    | nil => simpa using q
    | cons r1 rr => simpa using q
  exact SeqAt.RcAt.tuples (e := fun _ => true) p p2 (by omega) (fun j h1 h2 => absurd h2 (Nat.not_lt_zero _)) _ _ _ _ ⟨.bl _, H, I, rfl, q'⟩
variable {K : PySem.W.Frag}
theorem pg_tup' {es : List Expr} {k : Nat} {t : TGs} {n : Nat} {pos : Pos} (hK : X.K = K) (hc : X.calm = true) (h : PGs X es t)
    (hn : (assignEach es X.env).length = n := by rfl) (hst : (assignEach es X.env).findIdx? (·.1) = none := by rfl) : PG X (.Tuple es k pos) (gTup K n t) := by subst hK; exact pg_tup hc h hn hst
theorem pi_list' {tg l : Expr} {tl : TE} (hK : X.K = K) (hl : PE X l tl) : PI X tg l (iList K tl) := by subst hK; exact pi_list hl
theorem pi_tup'' {tg l : Expr} {tl : TE} (hK : X.K = K) (hl : PE X l tl) : PI X tg l (iTup K tl) := by subst hK; exact pi_tup hl
theorem ix_list' (hK : X.K = K) : IxR X (rIxL K) := by subst hK; exact ix_list
theorem ix_tup' (hK : X.K = K) : IxR X (rIxT K) := by subst hK; exact ix_tup
theorem op_in_seq' (hK : X.K = K) : OpR X (compareOp .In) (rIn K false) := by subst hK; exact op_in_seq
theorem call_len_seq' (hK : X.K = K) : CallR X (.builtin "len") (fun xs H Q => ∃ p ys, xs = [.ref p] ∧ (SqL K H p ys ∨ SqT K H p ys) ∧ Q (.int ys.length) H) := by subst hK; exact call_len_seq
theorem call_list_of' (hK : X.K = K) : CallR X (.type "list") (fun xs H Q => ∃ p ys, xs = [.ref p] ∧ (SqL K H p ys ∨ SqT K H p ys) ∧ ∀ l, H l = none → Q (.ref l) (upd H l (.lst ys))) := by subst hK; exact call_list_of
end
end L2
namespace L2
open PySem PySem.Spec PyProof.Rows
theorem get_list {X : Cx} {K : PySem.W.Frag} (hK : X.K = K) : PGet X (fun o i H Q => ∃ p xs v, ∃ k : Nat, o = .ref p ∧ i = .int k ∧ SqL K H p xs ∧ xs[k]? = some v ∧ Q v H) := by
  subst hK
  intro pins s σ H o i ov iv Q I ro ri h
  obtain ⟨p, xs, v, k, rfl, rfl, hq, hv, q⟩ := h
  cases ro
  obtain ⟨t, rfl⟩ := ri
  obtain ⟨its, r, pl, hz⟩ := I.list hq
  obtain ⟨w, ew, rw'⟩ := r.get hv
  have hk : k < xs.length := (List.getElem?_eq_some_iff.mp hv).1
  have hn := line63
  exact wpAny_getItem_list pl.isList (by omega) (by omega) (by simpa using ew) ⟨v, H, I, rw', q⟩
end L2
set_option Elab.async false
set_option linter.all false
set_option maxRecDepth 100000
set_option maxHeartbeats 4000000
namespace SmSort
open PySem PySem.W PyProof.Rows
def KOK {α : Type} (n : Nat) (c : Nat → Nat → Bool) : KasT α → (α → Prop) → Prop
  | .ret a, P => P a
  | .ask i j k, P => i < n ∧ j < n ∧ KOK n c (k (c i j)) P
theorem KOK.bind {α β : Type} {n : Nat} {c : Nat → Nat → Bool} {f : α → KasT β} {P : β → Prop} : ∀ (t : KasT α), KOK n c t (fun a => KOK n c (f a) P) → KOK n c (t.bind f) P
  | .ret a, h => h
  | .ask i j k, h => ⟨h.1, h.2.1, KOK.bind (k (c i j)) h.2.2⟩
theorem KOK.mono {α : Type} {n : Nat} {c : Nat → Nat → Bool} {P P' : α → Prop} (hp : ∀ a, P a → P' a) : ∀ (t : KasT α), KOK n c t P → KOK n c t P'
  | .ret a, h => hp a h
  | .ask i j k, h => ⟨h.1, h.2.1, KOK.mono hp (k (c i j)) h.2.2⟩
theorem KOK.wp {α : Type} {n : Nat} {c : Nat → Nat → Bool} {P : α → Prop} {Q : α → Shared → Prop} {cmp : Nat → Nat → (Bool → Shared → Prop) → Shared → Prop} {s : Shared}
    (hc : ∀ i j C, i < n → j < n → C (c i j) s → cmp i j C s) (hq : ∀ a, P a → Q a s) : ∀ (t : KasT α), KOK n c t P → t.kasWp cmp Q s
  | .ret a, h => hq a h
  | .ask i j k, h => hc i j _ h.1 h.2.1 (KOK.wp hc hq (k (c i j)) h.2.2)
section
variable {n : Nat} {f : Nat → Int}
def at' (p : Array Nat) (i : Nat) : Nat := (p[i]?).getD 0
theorem getD_at (p : Array Nat) (i : Nat) : p.getD i 0 = at' p i := by unfold at'; simp
def g (f : Nat → Int) (p : Array Nat) (i : Nat) : Int := f (at' p i)
def Pm (n : Nat) (p : Array Nat) : Prop := p.Perm (List.toArray (List.range n))
theorem Pm.size {p : Array Nat} (h : Pm n p) : p.size = n := by rw [Array.Perm.size_eq h]; simp
theorem Pm.lt {p : Array Nat} (h : Pm n p) {i : Nat} (hi : i < n) : at' p i < n := by
  have hs := h.size
  have e : at' p i = p[i]'(by omega) := by unfold at'; simp [hs, hi]
  have hm : p[i]'(by omega) ∈ p := Array.getElem_mem _
  have hm' := (Array.Perm.mem_iff h).mp hm
  rw [e]
  simpa using hm'
theorem Pm.rev {p : Array Nat} (h : Pm n p) (i j : Nat) : Pm n (kas_rev p i j) := (mirror_perm p i j _).trans h
theorem Pm.bub {p : Array Nat} (h : Pm n p) (k d : Nat) : Pm n (bubble p k d) := (bubble_perm p k d).trans h
theorem g_rev {p : Array Nat} {i j : Nat} (hj : j ≤ p.size) (k : Nat) : g f (kas_rev p i j) k = if i ≤ k ∧ k < j then g f p (i + j - 1 - k) else g f p k := by
  unfold g at' kas_rev
  rw [getElem?_mirror_all hj k]
  split <;> rfl
theorem g_bub {p : Array Nat} {src d : Nat} (hs : src < p.size) (hd : d ≤ src) (k : Nat) : g f (bubble p src d) k = if k = src - d then g f p src else if src - d < k ∧ k ≤ src then g f p (k - 1) else g f p k := by
  unfold g at'
  rw [getElem?_bubble hs d hd k]
  split
  · rfl
  · split <;> rfl
def Up (f : Nat → Int) (p : Array Nat) (k : Nat) : Prop := ∀ i j, i ≤ j → j < k → g f p i ≤ g f p j
def Dn (f : Nat → Int) (p : Array Nat) (k : Nat) : Prop := ∀ i j, i ≤ j → j < k → g f p j ≤ g f p i
def cf (f : Nat → Int) (i j : Nat) : Bool := decide (f i < f j)
theorem asc_ok {p : Array Nat} (hp : Pm n p) : ∀ (q m : Nat), 1 ≤ m → m + q ≤ n → Up f p m → KOK n (cf f) (kas_asc p q m) (fun m' => m ≤ m' ∧ m' ≤ m + q ∧ Up f p m' ∧ (m' < m + q → g f p m' < g f p (m' - 1)))
  | 0, m, _, _, hu => ⟨Nat.le_refl _, Nat.le_refl _, hu, fun h => absurd h (Nat.lt_irrefl _)⟩
  | q + 1, m, h1, h2, hu => by
    unfold kas_asc
    refine ⟨by rw [getD_at]; exact hp.lt (by omega), by rw [getD_at]; exact hp.lt (by omega), ?_⟩
    rw [getD_at, getD_at]
    by_cases hc : g f p m < g f p (m - 1)
    · have e : cf f (at' p m) (at' p (m - 1)) = true := decide_eq_true hc
      rw [e]; dsimp only; rw [if_pos rfl]
      exact ⟨Nat.le_refl _, by omega, hu, fun _ => hc⟩
    · have e : cf f (at' p m) (at' p (m - 1)) = false := decide_eq_false hc
      rw [e]; dsimp only; rw [if_neg Bool.false_ne_true]
      refine KOK.mono (fun m' h => ⟨by omega, by omega, h.2.2.1, fun z => h.2.2.2 (by omega)⟩) _ (asc_ok hp q (m + 1) (by omega) (by omega) fun i j hij hj => ?_)
      by_cases hjm : j < m
      · exact hu i j hij hjm
      · have ej : j = m := by omega
        subst ej
        by_cases hi : i = j
        · subst hi; omega
        · have := hu i (j - 1) (by omega) (by omega)
          omega
def Blk (f : Nat → Int) (p : Array Nat) (m q : Nat) : Prop := ∀ i, m ≤ i + (q + 1) → i < m → g f p i = g f p (m - 1)
theorem rev_same {p : Array Nat} (hp : Pm n p) {m q : Nat} (hm : m ≤ n) (hq : q + 1 ≤ m) (hb : Blk f p m q) (k : Nat) : g f (kas_rev p (m - (q + 1)) m) k = g f p k := by
  rw [g_rev (by rw [hp.size]; exact hm)]
  split
  · rename_i h
    rw [hb _ (by omega) (by omega), hb k (by omega) (by omega)]
  · rfl
theorem desc_ok : ∀ (t : Nat) (p : Array Nat) (m q : Nat), Pm n p → 1 ≤ m → m + t ≤ n → q + 1 ≤ m → Dn f p m → Blk f p m q →
    KOK n (cf f) (kas_desc t p m q) (fun r => Pm n r.1 ∧ m ≤ r.2.1 ∧ r.2.1 ≤ n ∧ r.2.2 + 1 ≤ r.2.1 ∧ Dn f r.1 r.2.1 ∧ Blk f r.1 r.2.1 r.2.2)
  | 0, p, m, q, hp, h1, h2, h3, hd, hb => ⟨hp, Nat.le_refl _, by simpa using h2, h3, hd, hb⟩
  | t + 1, p, m, q, hp, h1, h2, h3, hd, hb => by
    unfold kas_desc
    refine ⟨by rw [getD_at]; exact hp.lt (by omega), by rw [getD_at]; exact hp.lt (by omega), ?_⟩
    rw [getD_at, getD_at]
    by_cases hc : g f p m < g f p (m - 1)
    · have e : cf f (at' p m) (at' p (m - 1)) = true := decide_eq_true hc
      rw [e]; dsimp only; rw [if_pos rfl]
      have step : ∀ p' : Array Nat, Pm n p' → (∀ k, g f p' k = g f p k) → KOK n (cf f) (kas_desc t p' (m + 1) 0) (fun r => Pm n r.1 ∧ m ≤ r.2.1 ∧ r.2.1 ≤ n ∧ r.2.2 + 1 ≤ r.2.1 ∧ Dn f r.1 r.2.1 ∧ Blk f r.1 r.2.1 r.2.2) := fun p' hp' hg => by
        refine KOK.mono (fun r h => ⟨h.1, by omega, h.2.2⟩) _ (desc_ok t p' (m + 1) 0 hp' (by omega) (by omega) (by omega) (fun i j hij hj => ?_) fun i hi hi' => ?_)
        · rw [hg, hg]
          by_cases hjm : j < m
          · exact hd i j hij hjm
          · have ej : j = m := by omega
            subst ej
            by_cases hi : i = j
            · subst hi; omega
            · have := hd i (j - 1) (by omega) (by omega)
              omega
        · have : i = m + 1 - 1 := by omega
          rw [this]
      split
      · exact step _ (hp.rev _ _) (rev_same hp (by omega) h3 hb)
      · exact step _ hp fun _ => rfl
    · have e : cf f (at' p m) (at' p (m - 1)) = false := decide_eq_false hc
      rw [e]; dsimp only; rw [if_neg Bool.false_ne_true]
      refine ⟨hp.lt (by omega), hp.lt (by omega), ?_⟩
      by_cases hc2 : g f p (m - 1) < g f p m
      · have e2 : cf f (at' p (m - 1)) (at' p m) = true := decide_eq_true hc2
        rw [e2]; dsimp only; rw [if_pos rfl]
        exact ⟨hp, Nat.le_refl _, by show m ≤ n; omega, h3, hd, hb⟩
      · have e2 : cf f (at' p (m - 1)) (at' p m) = false := decide_eq_false hc2
        rw [e2]; dsimp only; rw [if_neg Bool.false_ne_true]
        have eq : g f p m = g f p (m - 1) := by omega
        refine KOK.mono (fun r h => ⟨h.1, by omega, h.2.2⟩) _ (desc_ok t p (m + 1) (q + 1) hp (by omega) (by omega) (by omega) (fun i j hij hj => ?_) fun i hi hi' => ?_)
        · by_cases hjm : j < m
          · exact hd i j hij hjm
          · have ej : j = m := by omega
            subst ej
            by_cases hi : i = j
            · subst hi; omega
            · have := hd i (j - 1) (by omega) (by omega)
              omega
        · rw [show m + 1 - 1 = m from rfl]
          by_cases hi2 : i = m
          · rw [hi2]
          · rw [hb i (by omega) (by omega), eq]
theorem tail3_ok {p : Array Nat} {m : Nat} (hp : Pm n p) (h1 : 1 ≤ m) (hm : m ≤ n) (hd : Dn f p m) : KOK n (cf f) (kas_tail3 m n p) (fun r => Pm n r.2 ∧ r.1 ≤ n ∧ 1 ≤ r.1 ∧ Up f r.2 r.1) := by
  unfold kas_tail3
  have hp' := hp.rev 0 m
  refine KOK.bind _ (KOK.mono (fun m' h => ⟨hp', by omega, by omega, h.2.2.1⟩) _ (asc_ok hp' (n - m) m h1 (by omega) fun i j hij hj => ?_))
  rw [g_rev (by rw [hp.size]; exact hm), g_rev (by rw [hp.size]; exact hm), if_pos ⟨by omega, by omega⟩, if_pos ⟨by omega, by omega⟩]
  exact hd _ _ (by omega) (by omega)
theorem descPart_ok {p : Array Nat} {m : Nat} (hp : Pm n p) (h1 : 1 ≤ m) (hm : m < n) (hd : Dn f p (m + 1)) : KOK n (cf f) (kas_descPart m n p) (fun r => Pm n r.2 ∧ r.1 ≤ n ∧ 1 ≤ r.1 ∧ Up f r.2 r.1) := by
  unfold kas_descPart
  refine KOK.bind _ (KOK.mono (fun r h => ?_) _ (desc_ok (n - (m + 1)) p (m + 1) 0 hp (by omega) (by omega) (by omega) hd fun i hi hi' => by rw [show i = m + 1 - 1 by omega]))
  obtain ⟨a1, a2, a3, a4, a5, a6⟩ := h
  split
  · exact tail3_ok (a1.rev _ _) (by omega) a3 fun i j hij hj => by
      rw [rev_same a1 a3 a4 a6, rev_same a1 a3 a4 a6]
      exact a5 i j hij hj
  · exact tail3_ok a1 (by omega) a3 a5
theorem count_ok {p : Array Nat} (hn : 1 ≤ n) (hp : Pm n p) : KOK n (cf f) (kas_count n p) (fun r => Pm n r.2 ∧ r.1 ≤ n ∧ 1 ≤ r.1 ∧ Up f r.2 r.1) := by
  unfold kas_count
  refine KOK.bind _ (KOK.mono (fun m h => ?_) _ (asc_ok hp (n - 1) 1 (Nat.le_refl _) (by omega) fun i j hij hj => by rw [show i = j by omega]; omega))
  obtain ⟨a1, a2, a3, a4⟩ := h
  split
  · exact ⟨hp, by omega, a1, a3⟩
  · rename_i hne
    have hlt : m < n := by
      have : ¬ m = n := by simpa using hne
      omega
    have a4' := a4 (by omega)
    split
    · rename_i hm1
      refine ⟨by rw [getD_at]; exact hp.lt (by omega), by rw [getD_at]; exact hp.lt (by omega), ?_⟩
      rw [getD_at, getD_at]
      by_cases hc : g f p 0 < g f p (m - 1)
      · have e : cf f (at' p 0) (at' p (m - 1)) = true := decide_eq_true hc
        rw [e]; dsimp only; rw [if_pos rfl]
        exact ⟨hp, by omega, a1, a3⟩
      · have e : cf f (at' p 0) (at' p (m - 1)) = false := decide_eq_false hc
        rw [e]; dsimp only; rw [if_neg Bool.false_ne_true]
        have all : ∀ k, k < m → g f p k = g f p 0 := fun k hk => by
          have := a3 0 k (by omega) hk
          have := a3 k (m - 1) (by omega) (by omega)
          omega
        have gr : ∀ k, g f (kas_rev p 0 m) k = g f p k := fun k => by
          rw [g_rev (by rw [hp.size]; omega)]
          split
          · rw [all _ (by omega), all k (by omega)]
          · rfl
        refine descPart_ok (hp.rev _ _) a1 hlt fun i j hij hj => ?_
        rw [gr, gr]
        by_cases hjm : j < m
        · rw [all i (by omega), all j hjm]; omega
        · have ej : j = m := by omega
          subst ej
          by_cases hi : i = j
          · subst hi; omega
          · have := all i (by omega)
            have := all (j - 1) (by omega)
            omega
    · refine descPart_ok hp a1 hlt fun i j hij hj => ?_
      have em : m = 1 := by omega
      subst em
      by_cases hi : i = j
      · subst hi; omega
      · have e1 : i = 0 := by omega
        have e2 : j = 1 := by omega
        subst e1 e2
        have : g f p 1 < g f p 0 := a4'
        omega
theorem place_ok {p : Array Nat} {k : Nat} (hp : Pm n p) (hk : k < n) (hu : Up f p k) : ∀ (t l r : Nat), l ≤ r → r ≤ k → r ≤ l + t → (∀ i, i < l → g f p i ≤ g f p k) → (∀ i, r ≤ i → i < k → g f p k < g f p i) →
    KOK n (cf f) (kas_place p k t l r) (fun l' => l' ≤ k ∧ (∀ i, i < l' → g f p i ≤ g f p k) ∧ ∀ i, l' ≤ i → i < k → g f p k < g f p i)
  | 0, l, r, h1, h2, h3, ha, hb => ⟨by omega, ha, fun i hi hi' => hb i (by omega) hi'⟩
  | t + 1, l, r, h1, h2, h3, ha, hb => by
    unfold kas_place
    split
    · exact ⟨by omega, ha, fun i hi hi' => hb i (by omega) hi'⟩
    · rename_i hlr
      refine ⟨by rw [getD_at]; exact hp.lt hk, by rw [getD_at]; exact hp.lt (by omega), ?_⟩
      rw [getD_at, getD_at]
      by_cases hc : g f p k < g f p ((l + r) / 2)
      · have e : cf f (at' p k) (at' p ((l + r) / 2)) = true := decide_eq_true hc
        rw [e]; dsimp only; rw [if_pos rfl]
        refine place_ok hp hk hu t l ((l + r) / 2) (by omega) (by omega) (by omega) ha fun i hi hi' => ?_
        have := hu ((l + r) / 2) i (by omega) hi'
        omega
      · have e : cf f (at' p k) (at' p ((l + r) / 2)) = false := decide_eq_false hc
        rw [e]; dsimp only; rw [if_neg Bool.false_ne_true]
        refine place_ok hp hk hu t ((l + r) / 2 + 1) r (by omega) (by omega) (by omega) (fun i hi => ?_) hb
        have := hu i ((l + r) / 2) (by omega) (by omega)
        omega
theorem bin_ok : ∀ (t : Nat) (p : Array Nat) (k : Nat), Pm n p → k + t = n → Up f p k → KOK n (cf f) (kas_bin t p k) (fun p' => Pm n p' ∧ Up f p' n)
  | 0, p, k, hp, hk, hu => ⟨hp, by rw [← hk]; exact hu⟩
  | t + 1, p, k, hp, hk, hu => by
    unfold kas_bin
    refine KOK.bind _ (KOK.mono (fun l h => ?_) _ (place_ok hp (by omega) hu k 0 k (by omega) (by omega) (by omega) (fun i hi => absurd hi (Nat.not_lt_zero _)) fun i hi hi' => absurd hi' (by omega)))
    obtain ⟨a1, a2, a3⟩ := h
    refine bin_ok t _ (k + 1) (hp.bub _ _) (by omega) fun i j hij hj => ?_
    have hs : k < p.size := by rw [hp.size]; omega
    rw [g_bub hs (by omega), g_bub hs (by omega)]
    have el : k - (k - l) = l := by omega
    rw [el]
    by_cases hil : i = l
    · rw [if_pos hil]
      by_cases hjl : j = l
      · rw [if_pos hjl]; omega
      · rw [if_neg hjl, if_pos ⟨by omega, by omega⟩]
        have := a3 (j - 1) (by omega) (by omega)
        omega
    · rw [if_neg hil]
      by_cases hi2 : l < i ∧ i ≤ k
      · rw [if_pos hi2]
        rw [if_neg (by omega), if_pos ⟨by omega, by omega⟩]
        exact hu _ _ (by omega) (by omega)
      · rw [if_neg hi2]
        have hi3 : i < l := by omega
        by_cases hjl : j = l
        · rw [if_pos hjl]; exact a2 i hi3
        · rw [if_neg hjl]
          by_cases hj2 : l < j ∧ j ≤ k
          · rw [if_pos hj2]; exact hu _ _ (by omega) (by omega)
          · rw [if_neg hj2]; exact hu _ _ hij (by omega)
theorem sort_ok (hn : 1 ≤ n) : KOK n (cf f) (kas_sort n) (fun p => Pm n p ∧ Up f p n) := by
  unfold kas_sort
  refine KOK.bind _ (KOK.mono (fun r h => ?_) _ (count_ok hn (show Pm n (List.toArray (List.range n)) from Array.Perm.refl _)))
  obtain ⟨a1, a2, a3, a4⟩ := h
  split
  · have e : max r.1 1 = r.1 := by omega
    rw [e]
    exact bin_ok _ _ _ a1 (by omega) a4
  · have e : r.1 = n := by omega
    exact ⟨a1, by rw [← e]; exact a4⟩
end
end SmSort
set_option Elab.async false
set_option linter.all false
set_option maxRecDepth 100000
set_option maxHeartbeats 4000000
namespace SmSort
def lx : List Int → List Int → Bool
  | [], [] => false
  | [], _ :: _ => true
  | _ :: _, [] => false
  | x :: xs, y :: ys => if x = y then lx xs ys else decide (x < y)
theorem lx_irr : ∀ r : List Int, lx r r = false
  | [] => rfl
  | x :: xs => by unfold lx; rw [if_pos rfl]; exact lx_irr xs
theorem lx_tr : ∀ {a b c : List Int}, lx a b = true → lx b c = true → lx a c = true
  | [], [], _, h, _ => by cases h
  | [], _ :: _, [], _, h => by cases h
  | [], _ :: _, _ :: _, _, _ => rfl
  | _ :: _, [], _, h, _ => by cases h
  | _ :: _, _ :: _, [], _, h => by cases h
  | x :: xs, y :: ys, z :: zs, h, h' => by
    unfold lx at h h' ⊢
    split at h
    · split at h'
      · rename_i e1 e2; rw [if_pos (e1.trans e2)]; exact lx_tr h h'
      · rename_i e1 e2
        simp only [decide_eq_true_eq] at h'
        rw [if_neg (by omega)]; simp only [decide_eq_true_eq]; omega
    · simp only [decide_eq_true_eq] at h
      split at h'
      · rename_i e1 e2
        rw [if_neg (by omega)]; simp only [decide_eq_true_eq]; omega
      · simp only [decide_eq_true_eq] at h'
        rw [if_neg (by omega)]; simp only [decide_eq_true_eq]; omega
theorem lx_tot : ∀ {a b : List Int}, lx a b = false → lx b a = false → a = b
  | [], [], _, _ => rfl
  | [], _ :: _, h, _ => by cases h
  | _ :: _, [], _, h => by cases h
  | x :: xs, y :: ys, h, h' => by
    unfold lx at h h'
    split at h
    · rename_i e; subst e; rw [if_pos rfl] at h'; rw [lx_tot h h']
    · rename_i e
      rw [if_neg fun z => e z.symm] at h'
      simp only [decide_eq_false_iff_not] at h h'
      omega
def rk (rs : List (List Int)) (r : List Int) : Int := ((rs.countP fun x => lx x r : Nat) : Int)
theorem countP_lt {α : Type} {p q : α → Bool} {a : α} : ∀ {l : List α}, (∀ x, p x = true → q x = true) → a ∈ l → p a = false → q a = true → l.countP p < l.countP q
  | [], _, h, _, _ => by cases h
  | x :: l, hpq, h, h1, h2 => by
    have hm : l.countP p ≤ l.countP q := List.countP_mono_left fun x _ => hpq x
    rcases List.mem_cons.mp h with rfl | h
    · rw [List.countP_cons_of_neg (by rw [h1]; exact Bool.false_ne_true), List.countP_cons_of_pos h2]; omega
    · have := countP_lt hpq h h1 h2
      rw [List.countP_cons, List.countP_cons]
      cases e : p x with
      | true => rw [hpq x e]; simp; omega
      | false => cases e2 : q x <;> simp <;> omega
theorem rk_lt {rs : List (List Int)} {a b : List Int} (ha : a ∈ rs) : decide (rk rs a < rk rs b) = lx a b := by
  unfold rk
  cases h : lx a b with
  | true =>
    have := countP_lt (p := fun x => lx x a) (q := fun x => lx x b) (fun x hx => lx_tr hx h) ha (lx_irr a) h
    simp only [decide_eq_true_eq]; omega
  | false =>
    have hm : rs.countP (fun x => lx x b) ≤ rs.countP (fun x => lx x a) := List.countP_mono_left fun x _ hx => by
      cases h' : lx b a with
      | true => exact lx_tr hx h'
      | false => rw [lx_tot h h']; exact hx
    simp only [decide_eq_false_iff_not]; omega
end SmSort
namespace L2
open PySem PySem.Spec PyProof.Rows PySem.W SmSort
theorem ObjOk.at {P : Program} {w : World} {H : Hp} {h : Heap} {a : Addr} {o : HO} (x : ObjOk P w H h a o) : ∃ ob, h.get? a = some ob := by
  cases o with
  | lst xs => obtain ⟨_, _, _, _, e⟩ := x; exact ⟨_, e⟩
  | tup xs => obtain ⟨_, _, _, ob, e, _⟩ := x; exact ⟨_, e⟩
  | dK kvs => obtain ⟨_, _, _, _, o, _, _, e, _⟩ := x; exact ⟨_, e⟩
  | dT kvs => obtain ⟨_, _, _, _, o, _, _, e, _⟩ := x; exact ⟨_, e⟩
  | set S n => obtain ⟨o, _, _, _, e, _⟩ := x; exact ⟨_, e⟩
  | ins C dx fs => obtain ⟨_, _, _, e, _⟩ := x; exact ⟨_, e⟩
  | own y => obtain ⟨_, e⟩ := x; exact ⟨_, e⟩
  | xd fs => obtain ⟨_, ⟨_, _, _, e, _⟩, _⟩ := x; exact ⟨_, e⟩
  | rng lo hi => obtain ⟨_, _, _, e⟩ := x; exact ⟨_, e⟩
  | frz ob u => obtain ⟨e, _⟩ := x; exact ⟨_, e⟩
  | tbl ps => exact ⟨_, (show h.get? a = some _ from x)⟩
  | met f y => exact ⟨_, (show h.get? a = some _ from x)⟩
  | ext φ => obtain ⟨_, ⟨_, e⟩, _⟩ := x; exact ⟨_, e⟩
section
variable {X : Cx} {pins : List (Addr × Obj)} {σ : St} {H : Hp} {s : Shared}
theorem Inv.sortedTo {m : Str → Option Value} {h' : Heap} {D : Addr} {its : List Value} {c : Nat} {xs : List V} (I : Inv X pins σ H s) (F0 : Fr X.base X.env.locals s.heap m) (F : Fr X.base X.env.locals h' m)
    (N : News X.base X.env.locals h' ((D, listOf its.toArray c) :: allNews X.base s.heap X.env.locals)) (lt : ∀ q ∈ allNews X.base s.heap X.env.locals, q.1 < D) (hv : Vals xs its) (hz : xs.length ≤ sizeLine) :
    Inv X pins σ (upd H D (.lst xs)) { s with heap := h' } ∧ H D = none := by
  obtain ⟨eD, nL, nb⟩ := N (D, listOf its.toArray c) (.head _)
  have oldD : s.heap.get? D = none := by
    cases q : s.heap.get? D with
    | none => rfl
    | some o => exact absurd (lt (D, o) (mem_allNews nL nb q)) (Nat.lt_irrefl _)
  have hD : H D = none := by
    cases q : H D with
    | none => rfl
    | some u =>
      obtain ⟨ob, e⟩ := (I.hok D u q).at
      rw [oldD] at e; cases e
  have keep : ∀ b o, b ≠ X.env.locals → s.heap.get? b = some o → h'.get? b = some o := fun b o hb e => by
    cases q : X.base.get? b with
    | some u =>
      have := I.bk b u q
      rw [e] at this; cases this
      exact F.keep b _ q
    | none => exact (N (b, o) (.tail _ (mem_allNews hb q e))).1
  have neD : ∀ b o, s.heap.get? b = some o → b ≠ D := fun b o e z => by rw [z, oldD] at e; cases e
  have neT : ∀ b u, H b = some u → b ≠ D := fun b u e z => by rw [z, hD] at e; cases e
  refine ⟨I.step (g' := s.gens) (t' := s.toks) (d' := s.drawn) (ch := []) (fun _ z => nomatch z) (fun b o hb _ _ e _ => keep b o hb e) (fun b o hb _ _ e _ => ⟨o.slots, keep b o hb e⟩) (fun b o _ e n => by rw [upd_ne (neD b o e)]; exact n) (fun b o _ e => ?_)
    (fun b ys e => by rw [upd_ne (neT b _ e)]; exact e) (fun b o u e => by rw [upd_ne (neT b _ e)]; exact e) (fun b ps e => ⟨#[], by rw [upd_ne (neT b _ e), e, Array.append_empty]⟩) (fun m' hm => ?_) (fun b u e => ?_) I.bare, hD⟩
  · by_cases hb : b = X.env.locals
    · obtain ⟨o', _, _, q, _⟩ := F.ns
      exact ⟨o', by rw [hb]; exact q⟩
    · exact ⟨o, keep b o hb e⟩
  · obtain ⟨o1, es1, ep1, e1, d1, k1, f1⟩ := hm
    obtain ⟨o2, es2, ep2, e2, d2, k2, f2⟩ := F0.ns
    rw [e1] at e2; cases e2
    rw [d1] at d2; cases d2
    obtain ⟨o3, es3, ep3, e3, d3, k3, f3⟩ := F.ns
    exact ⟨o3, es3, ep3, e3, d3, k3, fun name => (f3 name).trans ((f2 name).symm.trans (f1 name))⟩
  · by_cases hb : b = D
    · subst hb; rw [upd_same] at e; cases e
      exact ⟨hz, its, c, hv, eD⟩
    · rw [upd_ne hb] at e
      refine (I.hok b u e).stay (fun c v hc q => keep c v (fun z => ?_) q) (fun c q => by rw [upd_ne (neT c _ q)]; exact q) fun c ys q => by rw [upd_ne (neT c _ q)]; exact q
      rcases hc with rfl | hc
      · rw [z, I.free] at e; cases e
      · rw [z, I.free] at hc; cases hc
end
section
variable {prog : Program} {w : World} {A : Around} {E : Value → Shared → Prop} {s : Shared}
theorem sort_short {a : Addr} {its : List Value} {k : Nat} {P : PySem.Fin → Shared → Prop} (hx : s.heap.get? a = some (seqObj "list" its.toArray k)) (few : its.length < 2)
    (done : P (.done (.ret .none)) { s with heap := sortedHeap s.heap a its its.toArray }) : wpAny (model prog w) A (Builtin.«list.sort» ⟨[.ref a], []⟩) P E s := by
  have here : a < s.heap.objs.size := Heap.lt_size hx
  have line : its.length ≤ sizeLine := by rw [sizeLine_eq]; omega
  rw [list_sort_plain]
  obtain ⟨e1, at1⟩ : ∃ e1, (s.heap.update a (Obj.mapSeq fun _ => (#[] : Array Value))).get? a = some (seqObj "list" #[] e1) := ⟨_, get?_update_seq hx (fun _ => #[])⟩
  refine wpAny_bind (listItems_at hx rfl (wpAny_bind (listUpdate_at hx rfl (wpAny_bind (seqEpoch_at at1 rfl (wpAny_bind (wpAny_newTuple (wpAny_bind (wpAny_newList (wpAny_holding ?_) (Nat.zero_le _))) line))))
    (by rw [List.size_toArray]; exact line) (Nat.zero_le _))))
  have at2 : (((s.heap.update a (Obj.mapSeq fun _ => (#[] : Array Value))).push (seqObj "tuple" its.toArray 0)).push (seqObj "list" #[] 0)).get? a = some (seqObj "list" #[] e1) :=
    Heap.get?_push_of_some _ (Heap.get?_push_of_some _ at1)
  show wpAny (model prog w) A _ P E { s with heap := ((s.heap.update a (Obj.mapSeq fun _ => (#[] : Array Value))).push (seqObj "tuple" its.toArray 0)).push (seqObj "list" #[] 0) }
  have less : its.toArray.size < 2 := by rw [List.size_toArray]; exact few
  have snds : (arrOf (SortSt.mk' general' (its.toArray.zip its.toArray) #[] 7 none)).map (·.2) = its.toArray := by
    show (its.toArray.zip its.toArray).map (·.2) = its.toArray
    match its, few with
    | [], _ => simp
    | [_], _ => simp
  dsimp only
  rw [if_pos less, if_pos less]
  refine wpAny_bind (wpAny_pure ?_)
  rw [StateT.run_pure]
  refine wpAny_bind (wpAny_pure ?_)
  dsimp only
  refine wpAny_bind (seqEpoch_at at2 rfl (wpAny_bind (listUpdate_at at2 rfl ?_ (Nat.zero_le _) (by rw [snds, List.size_toArray]; omega))))
  simp only [bne_self_eq_false, Bool.false_eq_true, if_false]
  rw [snds]
  exact wpAny_pure done
theorem sorted_short {l : Addr} {its : List Value} {Q : Value → Shared → Prop} (hl : s.heap.IsList l its.toArray) (few : its.length < 2)
    (done : Q (.ref (s.heap.objs.size + 1)) { s with heap := sortedAll s.heap its its.toArray }) : wpAny (model prog w) A (call (.builtin "sorted") [.ref l]) Q E s := by
  have line : its.length ≤ sizeLine := by rw [sizeLine_eq]; omega
  refine Calls.call_function_entry kind_sorted plain_sorted entry_sorted (args_sorted1 _) ?_
  unfold Builtin.«sorted»
  refine wpAny_bind (m := checkCount "sorted" 1 1 _) (wpAny_pure (wpAny_bind (collect_list hl (wpAny_bind (wpAny_newList ?_ line)) line)))
  have sz : ((s.heap.push (seqObj "list" #[] 0)).update s.heap.objs.size (Obj.mapSeq (· ++ its.toArray))).objs.size = s.heap.objs.size + 1 := by rw [Heap.size_update, size_push']
  have atL : (((s.heap.push (seqObj "list" #[] 0)).update s.heap.objs.size (Obj.mapSeq (· ++ its.toArray))).push (seqObj "list" its.toArray 0)).get? (s.heap.objs.size + 1) = some (seqObj "list" its.toArray 0) := by
    rw [← sz]; exact Heap.get?_push_size _ rfl
  show wpAny _ _ _ _ _ { s with heap := ((s.heap.push (seqObj "list" #[] 0)).update s.heap.objs.size (Obj.mapSeq (· ++ its.toArray))).push (seqObj "list" its.toArray 0) }
  rw [sz]
  exact wpAny_bind (wpAny_holding (wpAny_call_entry slot_list_sort ⟨_, atL, rfl⟩ entry_list_sort (sort_short atL few ⟨_, rfl, wpAny_pure ⟨_, rfl, done⟩⟩) (args_list_sort _)))
end
section
variable {X : Cx}
theorem vals_refs : ∀ {ps : List (Addr × List Int)} {us : List Value}, Vals (ps.map fun a => V.ref a.1) us → us = ps.map fun a => Value.ref a.1
  | [], us, r => by cases r; rfl
  | a :: ps, us, r => by
    cases r with
    | cons x y => rw [vals_refs y]; cases x; rfl
def RowAt (h : Heap) (a : Addr) (r : List Int) : Prop := ∃ o items n, h.get? a = some o ∧ o.cls = .type "tuple" ∧ o.data = .seq items n ∧ Vals (r.map V.int) items.toList
theorem vals_lex {prog : Program} {w : World} {A : Around} {s : Shared} {b fin : Bool} {Q : Bool → Shared → Prop} : ∀ {r r' : List Int} {us us' : List Value} {i : Nat}, Vals (r.map V.int) us → Vals (r'.map V.int) us' → fin = decide (us.length < us'.length) → Q (lx r r') s →
    KatLex prog w A b fin Q (us.zip us') i s
  | [], [], us, us', i, ru, ru', hf, q => by cases ru; cases ru'; exact kat_nil (by rw [hf]; exact q)
  | [], _ :: _, us, us', i, ru, ru', hf, q => by
    cases ru; cases ru' with
    | cons _ _ => exact kat_nil (by rw [hf]; simpa [lx] using q)
  | _ :: _, [], us, us', i, ru, ru', hf, q => by
    cases ru'; cases ru with
    | cons _ _ => exact kat_nil (by rw [hf]; simpa [lx] using q)
  | x :: r, y :: r', us, us', i, ru, ru', hf, q => by
    cases ru with
    | cons rx ru =>
    cases ru' with
    | cons ry ru' =>
    obtain ⟨t, rfl⟩ := rx
    obtain ⟨t', rfl⟩ := ry
    refine kat_cons (wpAny_eqBool_int ?_)
    unfold lx at q
    by_cases e : x = y
    · subst e
      rw [if_pos rfl] at q
      rw [show (x == x) = true from by simp]
      exact kat_yes (vals_lex ru ru' (by rw [hf]; simp) q)
    · rw [if_neg e] at q
      rw [show (x == y) = false from by simpa using e]
      refine kat_no ?_
      cases (b && i == 0) with
      | true => exact oneLt_int q
      | false => exact kat_one _ _ (lt_int q)
theorem kat_tups {h : Heap} : ∀ {ps : List (Addr × List Int)}, (∀ a ∈ ps, RowAt h a.1 a.2 ∧ a.2 ≠ []) → ∃ fs, KatTups h (ps.map fun a => Value.ref a.1) fs ∧ fs.length = ps.length ∧ ∀ v ∈ fs, ∃ i t, v = Value.int i t
  | [], _ => ⟨[], KatTups.nil, rfl, fun _ z => nomatch z⟩
  | (a, r) :: ps, hp => by
    obtain ⟨fs, k, l, f⟩ := kat_tups fun a ha => hp a (.tail _ ha)
    obtain ⟨⟨o, items, n, ho, hc, hd, hv⟩, hn⟩ := hp (a, r) (.head _)
    match r, hn, hv with
    | x :: r, _, hv =>
      obtain ⟨u, hu, t, e⟩ := Vals.get (i := 0) hv rfl
      refine ⟨u :: fs, KatTups.cons ho hc hd (by rw [← hu]; simp) k, by simp [l], fun v hv => ?_⟩
      rcases List.mem_cons.mp hv with rfl | hv
      · exact ⟨x, t, e⟩
      · exact f v hv
theorem range_map {α : Type} (d : α) (l : List α) : (List.range l.length).map (fun i => l.getD i d) = l := by
  apply List.ext_getElem
  · simp
  · intro i h1 h2
    simp [List.getD, h2]
theorem vals_of_refs : ∀ (ps : List (Addr × List Int)), Vals (ps.map fun a => V.ref a.1) (ps.map fun a => Value.ref a.1)
  | [] => .nil
  | _ :: ps => .cons rfl (vals_of_refs ps)
theorem call_sortT : CallR X (.builtin "sorted") (fun xs H Q => ∃ p, ∃ ps : List (Addr × List Int), xs = [.ref p] ∧ SqL X.K H p (ps.map fun a => V.ref a.1) ∧ ps.length < 64 ∧ (∀ a ∈ ps, H a.1 = some (.tup (a.2.map V.int)) ∧ a.2 ≠ []) ∧
    ∀ l qs, H l = none → List.Perm qs ps → qs.Pairwise (fun a b => lx b.2 a.2 = false) → Q (.ref l) (upd H l (.lst (qs.map fun a => V.ref a.1)))) := by
  intro pins s σ H xs us Q I r h
  obtain ⟨p, ps, rfl, hq, h64, hrow, q⟩ := h
  obtain ⟨u, rfl, rx⟩ := vals1 r
  cases rx
  obtain ⟨its, r', pl, hz⟩ := I.list hq
  have ei := vals_refs r'
  subst ei
  have hlen : (ps.map fun a => Value.ref a.1).length = ps.length := by simp
  by_cases h2 : ps.length < 2
  · refine sorted_short pl.isList (by omega) ?_
    have sz : ((s.heap.push (seqObj "list" #[] 0)).update s.heap.objs.size (Obj.mapSeq (· ++ (ps.map fun a => Value.ref a.1).toArray))).objs.size = s.heap.objs.size + 1 := by rw [Heap.size_update, size_push']
    have kp : ∀ b o, s.heap.get? b = some o → (sortedAll s.heap (ps.map fun a => Value.ref a.1) (ps.map fun a => Value.ref a.1).toArray).get? b = some o := fun b o e => by
      have lb : b < s.heap.objs.size := Heap.lt_size e
      unfold sortedAll sortedHeap
      rw [Heap.get?_update_ne _ _ _ _ (Nat.ne_of_lt (Nat.lt_succ_of_lt lb))]
      refine Heap.get?_push_of_some _ (Heap.get?_push_of_some _ ?_)
      rw [Heap.get?_update_ne _ _ _ _ (Nat.ne_of_lt (Nat.lt_succ_of_lt lb))]
      refine Heap.get?_push_of_some _ ?_
      rw [Heap.get?_update_ne _ _ _ _ (Nat.ne_of_lt lb)]
      exact Heap.get?_push_of_some _ e
    obtain ⟨c, ec⟩ : ∃ c, (sortedAll s.heap (ps.map fun a => Value.ref a.1) (ps.map fun a => Value.ref a.1).toArray).get? (s.heap.objs.size + 1) = some (seqObj "list" (ps.map fun a => Value.ref a.1).toArray c) := by
      have e0 := Heap.get?_push_size ((s.heap.push (seqObj "list" #[] 0)).update s.heap.objs.size (Obj.mapSeq (· ++ (ps.map fun a => Value.ref a.1).toArray))) (o := seqObj "list" (ps.map fun a => Value.ref a.1).toArray 0) rfl
      rw [sz] at e0
      unfold sortedAll sortedHeap
      have e1 := get?_update_seq e0 (fun _ => (#[] : Array Value))
      exact ⟨_, get?_update_seq (Heap.get?_push_of_some _ (Heap.get?_push_of_some _ e1)) _⟩
    refine ⟨.ref (s.heap.objs.size + 1), _, I.laid (t' := s.toks) kp (Nat.le_succ _) (show ObjOk X.prog X.w _ _ _ (.lst (ps.map fun a => V.ref a.1)) from ⟨hz, _, c, r', ec⟩), rfl, q _ ps (I.hok.fresh (Nat.le_succ _)) (List.Perm.refl _) ?_⟩
    match ps, h2 with
    | [], _ => exact .nil
    | [_], _ => exact List.pairwise_singleton _ _
  · obtain ⟨m, F⟩ := I.fr
    refine kat_sorted F (news_all (g := X.base) (h := s.heap)) pl.isList (by omega) (by omega) fun D e1 h' F' N' lt => ?_
    have keep : ∀ b o, b ≠ X.env.locals → s.heap.get? b = some o → h'.get? b = some o := fun b o hb e => by
      cases q : X.base.get? b with
      | some u =>
        have := I.bk b u q
        rw [e] at this; cases this
        exact F'.keep b _ q
      | none => exact (N' (b, o) (.tail _ (mem_allNews hb q e))).1
    have rowAt : ∀ a ∈ ps, RowAt h' a.1 a.2 ∧ a.2 ≠ [] := fun a ha => by
      obtain ⟨ht, hn⟩ := hrow a ha
      obtain ⟨_, its, rv, o, e, c, n, d⟩ := I.hok a.1 _ ht
      refine ⟨⟨o, _, n, keep a.1 o (fun z => ?_) e, c, d, rv⟩, hn⟩
      rw [z, I.free] at ht; cases ht
    obtain ⟨fs, kt, lf, hf⟩ := kat_tups rowAt
    refine kat_kind (T := .type "int") kt (by omega) (fun v hv => ?_) (by decide) ?_
    · obtain ⟨i, t, rfl⟩ := hf v hv
      exact Looks.now
    have n1 : 1 ≤ (ps.map fun a => Value.ref a.1).length := by omega
    refine KOK.wp (c := cf fun i => rk (ps.map (·.2)) ((ps.map (·.2)).getD i [])) (fun i j C hi hj hC => ?_) (fun pp hp => ?_) _ (sort_ok (f := fun i => rk (ps.map (·.2)) ((ps.map (·.2)).getD i [])) n1)
    · have hi' : i < ps.length := by omega
      have hj' : j < ps.length := by omega
      obtain ⟨⟨o, items, n, ho, hc, hd, hv⟩, hn⟩ := rowAt ps[i] (List.getElem_mem hi')
      obtain ⟨⟨o', items', n', ho', hc', hd', hv'⟩, hn'⟩ := rowAt ps[j] (List.getElem_mem hj')
      unfold kas_ask
      have ei : (ps.map fun a => Value.ref a.1).getD i Value.none = .ref ps[i].1 := by simp [hi']
      have ej : (ps.map fun a => Value.ref a.1).getD j Value.none = .ref ps[j].1 := by simp [hj']
      rw [ei, ej]
      refine kat_lt ho hd ho' hd' (vals_lex hv hv' (by simp) ?_)
      have e : cf (fun i => rk (ps.map (·.2)) ((ps.map (·.2)).getD i [])) i j = lx ps[i].2 ps[j].2 := by
        unfold cf
        have e1 : (ps.map (·.2)).getD i [] = ps[i].2 := by simp [hi']
        have e2 : (ps.map (·.2)).getD j [] = ps[j].2 := by simp [hj']
        simp only [e1, e2]
        exact rk_lt (List.mem_map.mpr ⟨ps[i], List.getElem_mem hi', rfl⟩)
      rw [e] at hC
      exact hC
    · obtain ⟨pm, up⟩ := hp
      refine KasFin.intro F' N' (UpdF.head fun x hx => Nat.ne_of_lt (lt x hx)) fun h2' c F2 N2 => ?_
      have pl : pp.toList.Perm (List.range ps.length) := by
        have := pm.toList
        rw [hlen] at this
        simpa using this
      have eo : (pp.toList.map fun i => (ps.map fun a => Value.ref a.1).getD i Value.none) = (pp.toList.map fun i => ps.getD i (0, [])).map fun a => Value.ref a.1 := by
        rw [List.map_map]
        refine List.map_congr_left fun i hi => ?_
        have hi' : i < ps.length := List.mem_range.mp (pl.mem_iff.mp hi)
        simp [hi']
      have perm : (pp.toList.map fun i => ps.getD i (0, [])).Perm ps := by
        have := pl.map fun i => ps.getD i (0, [])
        rwa [range_map] at this
      rw [eo] at N2
      have hzz : ((pp.toList.map fun i => ps.getD i (0, [])).map fun a => V.ref a.1).length ≤ sizeLine := by
        rw [List.length_map, perm.length_eq, sizeLine_eq]; omega
      obtain ⟨I2, hD⟩ := I.sortedTo F F2 N2 lt (vals_of_refs _) hzz
      refine ⟨.ref D, _, I2, rfl, q D _ hD perm ?_⟩
      rw [List.pairwise_iff_getElem]
      intro i j hi hj hij
      simp only [List.length_map, Array.length_toList] at hi hj
      simp only [List.getElem_map, Array.getElem_toList]
      have hn : pp.size = ps.length := by rw [pm.size]; exact hlen
      have key := up i j (Nat.le_of_lt hij) (by omega)
      have a1 : pp[i] < ps.length := List.mem_range.mp (pl.mem_iff.mp (by simp))
      have a2 : pp[j] < ps.length := List.mem_range.mp (pl.mem_iff.mp (by simp))
      unfold g at'  at key
      simp only [hi, hj, getElem?_pos, Option.getD_some] at key
      have e1 : (ps.map (·.2)).getD pp[i] [] = ps[pp[i]].2 := by simp [a1]
      have e2 : (ps.map (·.2)).getD pp[j] [] = ps[pp[j]].2 := by simp [a2]
      rw [e1, e2] at key
      have e3 : ps.getD pp[i] (0, []) = ps[pp[i]] := by simp [a1]
      have e4 : ps.getD pp[j] (0, []) = ps[pp[j]] := by simp [a2]
      rw [e3, e4]
      have := rk_lt (rs := ps.map (·.2)) (a := ps[pp[j]].2) (b := ps[pp[i]].2) (List.mem_map.mpr ⟨_, List.getElem_mem a2, rfl⟩)
      rw [← this]
      simp only [decide_eq_false_iff_not]
      omega
end
end L2
set_option Elab.async false
set_option linter.all false
set_option maxRecDepth 100000
set_option maxHeartbeats 4000000
namespace L2
open PySem PySem.Spec PyProof.Rows
def notStar : Expr → Bool
  | .Starred _ _ => false
  | _ => true
theorem star_cons {e : Expr} {es : List Expr} {env : Env} (h : notStar e = true) : starEach (e :: es) env = (false, eval e env) :: starEach es env := by
  cases e <;> first | rfl | cases h
@[irreducible] def PA2 (X : Cx) (es : List Expr) (t : TA) : Prop := PA X es t
theorem pa_out {X : Cx} {es : List Expr} {t : TA} (h : PA2 X es t) : PA X es t := by unfold PA2 at h; exact h
theorem pa_in {X : Cx} {es : List Expr} {t : TA} (h : PA X es t) : PA2 X es t := by unfold PA2; exact h
theorem pa_n {X : Cx} : PA2 X [] tNil := pa_in pa_nil
theorem pa_c {X : Cx} {e : Expr} {es : List Expr} {te : TE} {t : TA} (ha : PE X e te) (hr : PA2 X es t) (hn : notStar e = true) : PA2 X (e :: es) (tCons te t) := pa_in (pa_cons ha (pa_out hr) (star_cons hn))
@[irreducible] def PSs2 (X : Cx) (es : List Stmt) (t : TS) : Prop := PSs X es t
theorem bl_out {X : Cx} {es : List Stmt} {t : TS} (h : PSs2 X es t) : PSs X es t := by unfold PSs2 at h; exact h
theorem bl_in {X : Cx} {es : List Stmt} {t : TS} (h : PSs X es t) : PSs2 X es t := by unfold PSs2; exact h
theorem bl_1 {X : Cx} {a : Stmt} {t : TS} (h : PS X a t) : PSs2 X [a] t := bl_in (pss_one h)
theorem bl_c {X : Cx} {a b : Stmt} {rest : List Stmt} {t u : TS} (h : PS X a t) (hr : PSs2 X (b :: rest) u) : PSs2 X (a :: b :: rest) (tSeq t u) := bl_in (pss_cons h (bl_out hr))
end L2
namespace L2
open PySem PySem.Spec PyProof.Rows
section
variable {K : PySem.W.Frag} {a : Addr} {xs : List V} {n : Nat} {caps : List Nat} {g : TG} {tc : TT} {te : TE} {σ : St} {H : Hp} {Qf : Addr → Hp → List V → Prop}
theorem comp_of {J : It} (Pv : Nat → St → List V → Hp → Prop) (len : Nat) (h0 : Pv 0 (tau0 n caps σ) [] H) (hn : len ≤ 1000) (hl : ∀ i τ acc H, Pv i τ acc H → acc.length ≤ i)
    (hgo : ∀ i τ acc H, i < len → Pv i τ acc H → J.go i H) (hstop : ∀ τ acc H, Pv len τ acc H → J.stop len H)
    (hs : ∀ i τ acc H (C : St → List V → Hp → Prop), i < len → Pv i τ acc H → (∀ τ acc H, Pv (i + 1) τ acc H → C τ acc H) → ∀ x H', J.yld i H x H' → g x τ H' fun τ2 H2 => tc τ2 H2 fun b H3 => if b = true then te τ2 H3 fun y H4 => C τ2 (acc ++ [y]) H4 else C τ2 acc H3)
    (hd : ∀ τ acc H, Pv len τ acc H → ∀ p, H p = none → Qf p H acc) :
    ∃ W : Nat → Nat → St → List V → Hp → Prop, (∃ m, W 0 m (tau0 n caps σ) [] H) ∧ ∀ i m τ acc H, W i m τ acc H →
      (J.stop i H ∧ acc.length ≤ sizeLine ∧ ∀ p, H p = none → Qf p H acc) ∨
      (J.go i H ∧ acc.length < sizeLine ∧ ∀ x H', J.yld i H x H' → g x τ H' fun τ2 H2 => tc τ2 H2 fun b H3 => if b = true then te τ2 H3 fun y H4 => ∃ m', m' < m ∧ W (i + 1) m' τ2 (acc ++ [y]) H4 else ∃ m', m' < m ∧ W (i + 1) m' τ2 acc H3) := by
  have line : 1001 ≤ sizeLine := by rw [sizeLine_eq]; decide
  refine ⟨fun i m τ acc H => m = len - i ∧ i ≤ len ∧ Pv i τ acc H, ⟨len, by simp, Nat.zero_le _, h0⟩, ?_⟩
  rintro i m τ acc H ⟨rfl, hi, p⟩
  have q := hl i τ acc H p
  by_cases hlt : i < len
  · exact .inr ⟨hgo i τ acc H hlt p, by omega, fun x H' y => hs i τ acc H (fun τ acc H => ∃ m', m' < len - i ∧ m' = len - (i + 1) ∧ i + 1 ≤ len ∧ Pv (i + 1) τ acc H) hlt p (fun τ acc H p' => ⟨len - (i + 1), by omega, rfl, hlt, p'⟩) x H' y⟩
  · have e : i = len := by omega
    subst e
    exact .inl ⟨hstop τ acc H p, by omega, hd τ acc H p⟩
theorem comp_tup (Pv : Nat → St → List V → Hp → Prop) (h0 : Pv 0 (tau0 n caps σ) [] H) (hn : xs.length ≤ 1000) (hl : ∀ i τ acc H, Pv i τ acc H → acc.length ≤ i ∧ SqT K H a xs)
    (hs : ∀ i x τ acc H (C : St → List V → Hp → Prop), xs[i]? = some x → Pv i τ acc H → (∀ τ acc H, Pv (i + 1) τ acc H → C τ acc H) → g x τ H fun τ2 H2 => tc τ2 H2 fun b H3 => if b = true then te τ2 H3 fun y H4 => C τ2 (acc ++ [y]) H4 else C τ2 acc H3)
    (hd : ∀ τ acc H, Pv xs.length τ acc H → ∀ p, H p = none → Qf p H acc) :
    ∃ W : Nat → Nat → St → List V → Hp → Prop, (∃ m, W 0 m (tau0 n caps σ) [] H) ∧ ∀ i m τ acc H, W i m τ acc H →
      ((Itt K a).stop i H ∧ acc.length ≤ sizeLine ∧ ∀ p, H p = none → Qf p H acc) ∨
      ((Itt K a).go i H ∧ acc.length < sizeLine ∧ ∀ x H', (Itt K a).yld i H x H' → g x τ H' fun τ2 H2 => tc τ2 H2 fun b H3 => if b = true then te τ2 H3 fun y H4 => ∃ m', m' < m ∧ W (i + 1) m' τ2 (acc ++ [y]) H4 else ∃ m', m' < m ∧ W (i + 1) m' τ2 acc H3) :=
  comp_of (J := Itt K a) Pv xs.length h0 hn (fun i τ acc H p => (hl i τ acc H p).1) (fun i τ acc H hi p => ⟨xs, xs[i], (hl i τ acc H p).2, by simp [hi]⟩) (fun τ acc H p => ⟨xs, (hl _ τ acc H p).2, Nat.le_refl _⟩)
    (fun i τ acc H C hi p c x H' y => by obtain ⟨e, y⟩ := y; subst e; exact hs i x τ acc _ C (y xs (hl i τ acc _ p).2) p c) hd
theorem comp_list (Pv : Nat → St → List V → Hp → Prop) (h0 : Pv 0 (tau0 n caps σ) [] H) (hn : xs.length ≤ 1000) (hl : ∀ i τ acc H, Pv i τ acc H → acc.length ≤ i ∧ SqL K H a xs)
    (hs : ∀ i x τ acc H (C : St → List V → Hp → Prop), xs[i]? = some x → Pv i τ acc H → (∀ τ acc H, Pv (i + 1) τ acc H → C τ acc H) → g x τ H fun τ2 H2 => tc τ2 H2 fun b H3 => if b = true then te τ2 H3 fun y H4 => C τ2 (acc ++ [y]) H4 else C τ2 acc H3)
    (hd : ∀ τ acc H, Pv xs.length τ acc H → ∀ p, H p = none → Qf p H acc) :
    ∃ W : Nat → Nat → St → List V → Hp → Prop, (∃ m, W 0 m (tau0 n caps σ) [] H) ∧ ∀ i m τ acc H, W i m τ acc H →
      ((Itl K a).stop i H ∧ acc.length ≤ sizeLine ∧ ∀ p, H p = none → Qf p H acc) ∨
      ((Itl K a).go i H ∧ acc.length < sizeLine ∧ ∀ x H', (Itl K a).yld i H x H' → g x τ H' fun τ2 H2 => tc τ2 H2 fun b H3 => if b = true then te τ2 H3 fun y H4 => ∃ m', m' < m ∧ W (i + 1) m' τ2 (acc ++ [y]) H4 else ∃ m', m' < m ∧ W (i + 1) m' τ2 acc H3) :=
  comp_of (J := Itl K a) Pv xs.length h0 hn (fun i τ acc H p => (hl i τ acc H p).1) (fun i τ acc H hi p => ⟨xs, xs[i], (hl i τ acc H p).2, by simp [hi]⟩) (fun τ acc H p => ⟨xs, (hl _ τ acc H p).2, Nat.le_refl _⟩)
    (fun i τ acc H C hi p c x H' y => by obtain ⟨e, y⟩ := y; subst e; exact hs i x τ acc _ C (y xs (hl i τ acc _ p).2) p c) hd
end
end L2
namespace Sm
open PySem L2 SmSort
def But (p : Addr) (H H' : Hp) : Prop := ∀ b u, b ≠ p → H b = some u → H' b = some u
theorem But.refl (p : Addr) (H : Hp) : But p H H := fun _ _ _ h => h
theorem But.trans {p : Addr} {H H1 H2 : Hp} (a : But p H H1) (b : But p H1 H2) : But p H H2 := fun c u n h => b c u n (a c u n h)
theorem But.set {p : Addr} {H : Hp} {o : HO} : But p H (upd H p o) := fun b u n h => by rw [upd_ne n]; exact h
theorem But.new {p l : Addr} {H : Hp} {o : HO} (h : H l = none) : But p H (upd H l o) := fun b u n e => by rw [upd_ne (ne_of_none e h)]; exact e
def Purse (H : Hp) (p : Addr) : Prop := ∃ a b c : Int, H p = some (.lst [.int a, .int b, .int c])
def Go (p : Addr) (H H' : Hp) : Prop := But p H H' ∧ Purse H' p
theorem Go.trans {p : Addr} {H H1 H2 : Hp} (a : Go p H H1) (b : Go p H1 H2) : Go p H H2 := ⟨a.1.trans b.1, b.2⟩
theorem Go.refl {p : Addr} {H : Hp} (a : Purse H p) : Go p H H := ⟨But.refl p H, a⟩
theorem Purse.new {p l : Addr} {H : Hp} {o : HO} (a : Purse H p) (h : H l = none) : Purse (upd H l o) p := by
  obtain ⟨x, y, z, e⟩ := a
  exact ⟨x, y, z, by rw [upd_ne (ne_of_none e h)]; exact e⟩
theorem Purse.ne {p l : Addr} {H : Hp} (a : Purse H p) (h : H l = none) : l ≠ p := by
  obtain ⟨x, y, z, e⟩ := a
  exact (ne_of_none e h).symm
theorem Go.new {p l : Addr} {H H1 : Hp} {o : HO} (a : Go p H H1) (h : H1 l = none) : Go p H (upd H1 l o) := ⟨a.1.trans (But.new h), a.2.new h⟩
theorem Purse.tup {p t : Addr} {H : Hp} {xs : List V} (a : Purse H p) (h : H t = some (.tup xs)) : t ≠ p := by
  obtain ⟨x, y, z, e⟩ := a
  exact ne_of h e (by intro z; cases z)
def Tups (H H' : Hp) : Prop := ∀ b xs, H b = some (.tup xs) → H' b = some (.tup xs)
theorem Go.tups {p : Addr} {H H' : Hp} (a : Go p H H') (h : Purse H p) : Tups H H' := fun b xs e => a.1 b _ (h.tup e) e
theorem Tups.new {l : Addr} {H : Hp} {o : HO} (h : H l = none) : Tups H (upd H l o) := fun b u e => by rw [upd_ne (ne_of_none e h)]; exact e
theorem Tups.set {l : Addr} {H : Hp} {xs : List V} {o : HO} (h : H l = some (.lst xs)) : Tups H (upd H l o) := fun b u e => by rw [upd_ne (ne_of e h (by intro z; cases z))]; exact e
theorem Tups.same {H H' : Hp} (h : Same H H') : Tups H H' := fun b u e => h b _ e
structure M4 where
  lo : Int
  hi : Int
  t : Int
  m : Int
def M4.vs (r : M4) : List V := [.int r.lo, .int r.hi, .int r.t, .int r.m]
def apart (a b : M4) : Prop := a.lo ≠ b.lo ∧ a.lo ≠ b.hi ∧ a.hi ≠ b.lo ∧ a.hi ≠ b.hi
structure Good (w : Int) (ms : List M4) : Prop where
  few : ms.length ≤ 60
  each : ∀ r ∈ ms, 0 ≤ r.lo ∧ r.lo < r.hi ∧ r.hi < w ∧ 1 ≤ r.t ∧ r.t ≤ 1000000000 ∧ 1 ≤ r.m ∧ r.m ≤ 99
  order : ms.Pairwise fun a b => a.t < b.t ∨ (a.t = b.t ∧ a.lo < b.lo ∧ apart a b)
def RowsAt (H : Hp) (ps : List (Addr × M4)) : Prop := ∀ a ∈ ps, H a.1 = some (.tup a.2.vs)
structure BookAt (H : Hp) (b : Addr) (rooms : List Int) (tr tm : Addr) (ps : List (Addr × M4)) : Prop where
  book : H b = some (.tup [.ref tr, .ref tm])
  rooms : H tr = some (.tup (rooms.map V.int))
  meets : H tm = some (.tup (ps.map fun a => V.ref a.1))
  rows : RowsAt H ps
theorem RowsAt.tups {H H' : Hp} {ps : List (Addr × M4)} (a : RowsAt H ps) (t : Tups H H') : RowsAt H' ps := fun x hx => t _ _ (a x hx)
theorem BookAt.tups {H H' : Hp} {b tr tm : Addr} {rooms : List Int} {ps : List (Addr × M4)} (a : BookAt H b rooms tr tm ps) (t : Tups H H') : BookAt H' b rooms tr tm ps :=
  ⟨t _ _ a.book, t _ _ a.rooms, t _ _ a.meets, a.rows.tups t⟩
def spLaw (K : PySem.W.Frag) : Sp := fun vs H Q _ => ∃ (a : Addr) (ns : List Int), vs = [.ref a] ∧ SqL K H a (ns.map V.int) ∧ ns.length ≤ 63 ∧ ∀ H', Q (.bl true) H'
def spPurse (K : PySem.W.Frag) : Sp := fun vs H Q _ => ∃ (a : Addr) (ns : List Int) (k : Nat), vs = [.ref a, .int k] ∧ SqL K H a (ns.map V.int) ∧ k < 1000 ∧ ∀ p H', H p = none → Purse H' p → Same H H' → Q (.ref p) H'
def spTake : Sp := fun vs H Q _ => ∃ p n, vs = [.ref p, .int n] ∧ 0 < n ∧ n < 2 ^ 200 ∧ Purse H p ∧ ∀ d H', 0 ≤ d → d < n → Go p H H' → Q (.int d) H'
def spFar : Sp := fun vs H Q _ => ∃ p, vs = [.ref p] ∧ Purse H p ∧ ∀ d H', 0 ≤ d → d ≤ 1000000000 → Go p H H' → Q (.int d) H'
def spRooms : Sp := fun vs H Q _ => ∃ p, ∃ n : Nat, vs = [.ref p, .int n] ∧ n ≤ 1000 ∧ Purse H p ∧ ∀ (t : Addr) (rooms : List Int) (H' : Hp), Go p H H' → H' t = some (.tup (rooms.map V.int)) → rooms.length = n → (∀ r ∈ rooms, (0 : Int) ≤ r ∧ r ≤ 99) → Q (.ref t) H'
def spStep : Sp := fun vs H Q _ => ∃ p, vs = [.ref p] ∧ Purse H p ∧ ∀ d H', 0 ≤ d → d ≤ 16000000 → Go p H H' → Q (.int d) H'
def spMeetings : Sp := fun vs H Q _ => ∃ p, ∃ w : Int, ∃ n : Nat, vs = [.ref p, .int w, .int n] ∧ n ≤ 60 ∧ w < 1000 ∧ (n = 0 ∨ 2 ≤ w) ∧ Purse H p ∧
  ∀ (t : Addr) (ps : List (Addr × M4)) (H' : Hp), Go p H H' → H' t = some (.tup (ps.map fun a => V.ref a.1)) → RowsAt H' ps → Good w (ps.map (·.2)) → ps.length = n → Q (.ref t) H'
def spBook : Sp := fun vs H Q _ => ∃ p, ∃ a : Int, ∃ n : Nat, vs = [.ref p, .int a, .int n] ∧ 1 ≤ a ∧ a ≤ 100 ∧ n ≤ 60 ∧ Purse H p ∧
  ∀ (b : Addr) (rooms : List Int) (tr tm : Addr) (ps : List (Addr × M4)) (H' : Hp), Go p H H' → BookAt H' b rooms tr tm ps → 1 ≤ rooms.length → (rooms.length : Int) ≤ a → (∀ r ∈ rooms, (0 : Int) ≤ r ∧ r ≤ 99) → Good rooms.length (ps.map (·.2)) → ps.length ≤ n → Q (.ref b) H'
theorem iteD {c A B : Prop} [Decidable c] (h1 : c → A) (h2 : ¬ c → B) : if decide c = true then A else B := by
  by_cases h : c
  · rw [if_pos (decide_eq_true h)]; exact h1 h
  · rw [if_neg (by simpa using h)]; exact h2 h
theorem iteB0 {c : Bool} {A B : Prop} (hc : c = false) (h : B) : if c = true then A else B := by
  rw [if_neg (by rw [hc]; exact Bool.false_ne_true)]; exact h
theorem iteB {c : Bool} {A B : Prop} (h1 : c = true → A) (h2 : c = false → B) : if c = true then A else B := by
  cases c with
  | true => exact h1 rfl
  | false => exact h2 rfl
theorem same_new {H : Hp} {p : Addr} {o : HO} (h : H p = none) : Same H (upd H p o) := fun b u e => by
  rw [upd_ne (ne_of_none e h)]; exact e
def M4.row (r : M4) : List Int := [r.t, r.lo, r.hi, r.m]
structure FOk (w when' : Int) (bs : List Int) (fs : List (Addr × M4)) : Prop where
  each : ∀ a ∈ fs, 0 ≤ a.2.lo ∧ a.2.lo < a.2.hi ∧ a.2.hi < w ∧ 1 ≤ a.2.t ∧ a.2.t ≤ when' ∧ 1 ≤ a.2.m ∧ a.2.m ≤ 99
  pw : fs.Pairwise fun a b => a.2.t = b.2.t → apart a.2 b.2
  bz : ∀ a ∈ fs, a.2.t = when' → a.2.lo ∈ bs ∧ a.2.hi ∈ bs
theorem FOk.step {w wh gap one other m : Int} {bs bs' : List Int} {fs : List (Addr × M4)} {a : Addr} (F : FOk w wh bs fs) (h1 : 1 ≤ wh) (g0 : 0 ≤ gap) (o0 : 0 ≤ one) (o1 : one < w) (p0 : 0 ≤ other) (p1 : other < w) (ne : one ≠ other)
    (m0 : 1 ≤ m) (m1 : m ≤ 99) (hg : gap = 0 → one ∉ bs ∧ other ∉ bs) (hb : ∀ x ∈ bs, gap = 0 → x ∈ bs') (hb1 : one ∈ bs') (hb2 : other ∈ bs') :
    FOk w (wh + gap) bs' (fs ++ [(a, ⟨if other < one then other else one, if other > one then other else one, wh + gap, m⟩)]) := by
  refine ⟨fun b hb => ?_, ?_, fun b hm e => ?_⟩
  · rcases List.mem_append.mp hb with h | h
    · obtain ⟨a1, a2, a3, a4, a5, a6, a7⟩ := F.each b h
      exact ⟨a1, a2, a3, a4, by omega, a6, a7⟩
    · cases List.mem_singleton.mp h
      by_cases c : other < one
      · rw [if_pos c, if_neg (by omega)]; exact ⟨p0, c, o1, by show 1 ≤ wh + gap; omega, Int.le_refl _, m0, m1⟩
      · rw [if_neg c, if_pos (by omega)]; exact ⟨o0, by show one < other; omega, p1, by show 1 ≤ wh + gap; omega, Int.le_refl _, m0, m1⟩
  · rw [List.pairwise_append]
    refine ⟨F.pw, List.pairwise_singleton _ _, fun b hb c hc e => ?_⟩
    cases List.mem_singleton.mp hc
    have e' : b.2.t = wh + gap := e
    obtain ⟨a1, a2, a3, a4, a5, a6, a7⟩ := F.each b hb
    have g : gap = 0 := by omega
    obtain ⟨x1, x2⟩ := F.bz b hb (by omega)
    obtain ⟨n1, n2⟩ := hg g
    have q1 : b.2.lo ≠ one := fun z => n1 (z ▸ x1)
    have q2 : b.2.lo ≠ other := fun z => n2 (z ▸ x1)
    have q3 : b.2.hi ≠ one := fun z => n1 (z ▸ x2)
    have q4 : b.2.hi ≠ other := fun z => n2 (z ▸ x2)
    unfold apart
    dsimp only
    by_cases c : other < one
    · rw [if_pos c, if_neg (by omega)]; exact ⟨q2, q1, q4, q3⟩
    · rw [if_neg c, if_pos (by omega)]; exact ⟨q1, q2, q3, q4⟩
  · rcases List.mem_append.mp hm with h | h
    · obtain ⟨a1, a2, a3, a4, a5, a6, a7⟩ := F.each b h
      obtain ⟨x1, x2⟩ := F.bz b h (by omega)
      exact ⟨hb _ x1 (by omega), hb _ x2 (by omega)⟩
    · cases List.mem_singleton.mp h
      by_cases c : other < one
      · rw [if_pos c, if_neg (by omega)]; exact ⟨hb2, hb1⟩
      · rw [if_neg c, if_pos (by omega)]; exact ⟨hb1, hb2⟩
def M4.late (l : Int) (r : M4) : M4 := ⟨r.lo, r.hi, r.t + l, r.m⟩
theorem FOk.good {w wh l : Int} {bs : List Int} {fs qs : List (Addr × M4)} (F : FOk w wh bs fs) (n : fs.length ≤ 60) (l0 : 0 ≤ l) (l1 : fs ≠ [] → wh + l ≤ 1000000000) (p : qs.Perm fs) (s : qs.Pairwise fun a b => lx b.2.row a.2.row = false) :
    Good w (qs.map fun a => a.2.late l) := by
  refine ⟨by rw [List.length_map, p.length_eq]; exact n, fun r hr => ?_, ?_⟩
  · obtain ⟨a, ha, rfl⟩ := List.mem_map.mp hr
    have hm := p.mem_iff.mp ha
    obtain ⟨a1, a2, a3, a4, a5, a6, a7⟩ := F.each a hm
    have := l1 (List.ne_nil_of_mem hm)
    unfold M4.late
    exact ⟨a1, a2, a3, by show 1 ≤ a.2.t + l; omega, by show a.2.t + l ≤ 1000000000; omega, a6, a7⟩
  · rw [List.pairwise_map]
    have ap : qs.Pairwise fun a b => a.2.t = b.2.t → apart a.2 b.2 := (List.Perm.pairwise_iff (fun {x y} h e => by
      obtain ⟨a1, a2, a3, a4⟩ := h e.symm
      exact ⟨a1.symm, a3.symm, a2.symm, a4.symm⟩) p).mpr F.pw
    refine (s.and ap).imp fun {a b} ⟨h1, h2⟩ => ?_
    unfold M4.late
    dsimp only
    unfold M4.row lx at h1
    by_cases e : a.2.t = b.2.t
    · have q := h2 e
      rw [if_pos e.symm] at h1
      unfold lx at h1
      rw [if_neg fun z => q.1 z.symm] at h1
      simp only [decide_eq_false_iff_not] at h1
      refine .inr ⟨by omega, ?_, q⟩
      have := q.1
      omega
    · rw [if_neg fun z => e z.symm] at h1
      simp only [decide_eq_false_iff_not] at h1
      exact .inl (by omega)
def toM4 (r : List Int) : M4 := ⟨r.getD 1 0, r.getD 2 0, r.getD 0 0, r.getD 3 0⟩
theorem rows_back {fs : List (Addr × M4)} {qs : List (Addr × List Int)} (p : qs.Perm (fs.map fun a => (a.1, a.2.row))) (s : qs.Pairwise fun a b => lx b.2 a.2 = false) :
    ∃ rs : List (Addr × M4), rs.Perm fs ∧ (rs.Pairwise fun a b => lx b.2.row a.2.row = false) ∧ qs = rs.map fun a => (a.1, a.2.row) := by
  have e : qs = (qs.map fun a => (a.1, toM4 a.2)).map fun a => (a.1, a.2.row) := by
    rw [List.map_map]
    refine (List.map_id qs).symm.trans (List.map_congr_left fun x hx => ?_)
    obtain ⟨a, _, rfl⟩ := List.mem_map.mp (p.mem_iff.mp hx)
    rfl
  refine ⟨qs.map fun a => (a.1, toM4 a.2), ?_, ?_, e⟩
  · have := p.map fun a => (a.1, toM4 a.2)
    rw [List.map_map] at this
    refine this.trans (.of_eq ?_)
    refine (List.map_congr_left fun x _ => ?_).trans (List.map_id fs)
    rfl
  · rw [e, List.pairwise_map] at s
    exact s
theorem flat_ints (bs : List Int) : (bs.map V.int).all flatV = true := by
  rw [List.all_eq_true]
  intro x hx
  obtain ⟨b, _, rfl⟩ := List.mem_map.mp hx
  rfl
theorem inV_ints {x : Int} {bs : List Int} : inV (.int x) (bs.map V.int) = decide (x ∈ bs) := by
  unfold inV
  induction bs with
  | nil => rfl
  | cons b bs ih =>
    rw [List.map_cons, List.any_cons, ih]
    by_cases h : x = b
    · subst h; simp [eqV]
    · have h' : ¬ b = x := fun z => h z.symm
      simp [eqV, h, h']
def PvM (p lf : Addr) (w : Int) (n : Nat) (H : Hp) (i : Nat) (σ : St) (H3 : Hp) : Prop :=
  ∃ v6 v7 v8 v9 v10 wh lb bs, ∃ fs : List (Addr × M4), σ = [some (.ref p), some (.int w), some (.int n), some (.ref lf), some (.int wh), some (.ref lb), v6, v7, v8, v9, v10, none] ∧
    H3 lf = some (.lst (fs.map fun a => V.ref a.1)) ∧ H3 lb = some (.lst (List.map V.int bs)) ∧ lb ≠ lf ∧ lb ≠ p ∧ (∀ a ∈ fs, H3 a.1 = some (.tup (a.2.row.map V.int))) ∧ FOk w wh bs fs ∧ fs.length = i ∧ bs.length ≤ 2 * i ∧ 1 ≤ wh ∧ wh ≤ 10000000 + 16000000 * i ∧ Go p H H3
theorem PvM.step {p lf lb t : Addr} {w wh gap one other m : Int} {n i : Nat} {H Hx : Hp} {bs bs' : List Int} {fs : List (Addr × M4)} {v6 v7 v8 v9 v10 : Option V} (npf : lf ≠ p) (hlf : H lf = none)
    (F : FOk w wh bs fs) (lenf : fs.length = i) (lenb : bs'.length ≤ 2 * i + 2) (wh1 : 1 ≤ wh) (wh2 : wh ≤ 10000000 + 16000000 * i) (hf : Hx lf = some (.lst (fs.map fun a => V.ref a.1))) (hb : Hx lb = some (.lst (List.map V.int bs'))) (nb : lb ≠ lf) (nbp : lb ≠ p)
    (rows : ∀ a ∈ fs, Hx a.1 = some (.tup (a.2.row.map V.int))) (go : Go p H Hx) (ht : Hx t = none)
    (g0 : 0 ≤ gap) (g1 : gap ≤ 16000000) (o0 : 0 ≤ one) (o1 : one < w) (p0 : 0 ≤ other) (p1 : other < w) (ne : one ≠ other) (m0 : 1 ≤ m) (m1 : m ≤ 99) (hg : gap = 0 → one ∉ bs ∧ other ∉ bs) (hb0 : ∀ x ∈ bs, gap = 0 → x ∈ bs') (hb1 : one ∈ bs') (hb2 : other ∈ bs') :
    PvM p lf w n H (i + 1) [some (.ref p), some (.int w), some (.int n), some (.ref lf), some (.int (wh + gap)), some (.ref lb), v6, v7, v8, v9, v10, none]
      (upd (upd Hx t (.tup [.int (wh + gap), .int (if other < one then other else one), .int (if other > one then other else one), .int m])) lf (.lst ((fs.map fun a => V.ref a.1) ++ [.ref t]))) := by
  have ntf : t ≠ lf := (ne_of_none hf ht).symm
  refine ⟨v6, v7, v8, v9, v10, wh + gap, lb, bs', fs ++ [(t, ⟨if other < one then other else one, if other > one then other else one, wh + gap, m⟩)], rfl, by rw [upd_same, List.map_append]; rfl, ?_, nb, nbp, fun a ha => ?_, F.step wh1 g0 o0 o1 p0 p1 ne m0 m1 hg hb0 hb1 hb2, by rw [List.length_append, lenf]; rfl, by omega, by omega, by omega, fun b u nb e => ?_, ?_⟩
  · rw [upd_ne nb, upd_ne (ne_of_none hb ht)]; exact hb
  · rcases List.mem_append.mp ha with h | h
    · have := rows a h
      rw [upd_ne (ne_of this hf (by intro z; cases z)), upd_ne (ne_of_none this ht)]; exact this
    · cases List.mem_singleton.mp h
      rw [upd_ne ntf, upd_same]; rfl
  · rw [upd_ne (ne_of_none e hlf), upd_ne (ne_of_none (go.1 b u nb e) ht)]; exact go.1 b u nb e
  · have := go.2.new (o := .tup [.int (wh + gap), .int (if other < one then other else one), .int (if other > one then other else one), .int m]) ht
    obtain ⟨x, y, z, e⟩ := this
    exact ⟨x, y, z, by rw [upd_ne npf.symm]; exact e⟩
theorem oth_ok {one x w : Int} (o0 : 0 ≤ one) (o1 : one < w) (x0 : 0 ≤ x) (x1 : x < w - 1) : 0 ≤ (one + 1 + x) % w ∧ (one + 1 + x) % w < w ∧ one ≠ (one + 1 + x) % w := by
  refine ⟨Int.emod_nonneg _ (by omega), Int.emod_lt_of_pos _ (by omega), ?_⟩
  by_cases h : one + 1 + x < w
  · rw [Int.emod_eq_of_lt (by omega) h]; omega
  · have e : (one + 1 + x) % w = (one + 1 + x - w) % w := by
      have : one + 1 + x = (one + 1 + x - w) + w := by omega
      rw [this, Int.add_emod_right]; congr 1; omega
    rw [e, Int.emod_eq_of_lt (by omega) (by omega)]; omega
theorem Go.same {p : Addr} {H H1 H2 : Hp} (a : Go p H H1) (s : Same H1 H2) : Go p H H2 := ⟨fun b u n e => s b u (a.1 b u n e), by obtain ⟨x, y, z, e⟩ := a.2; exact ⟨x, y, z, s _ _ e⟩⟩
theorem map_get {α : Type} {f : α → V} {l : List α} {i : Nat} {x : V} (h : (l.map f)[i]? = some x) : ∃ r, l[i]? = some r ∧ x = f r := by
  rw [List.getElem?_map] at h
  cases e : l[i]? with
  | none => rw [e] at h; cases h
  | some r => rw [e] at h; exact ⟨r, rfl, (Option.some.inj h).symm⟩
theorem take_snoc {α : Type} {l : List α} {i : Nat} {r : α} (h : l[i]? = some r) : l.take (i + 1) = l.take i ++ [r] := by
  rw [List.take_add_one, h]; rfl
theorem But.same {p : Addr} {H H1 H2 : Hp} (hp : H p = none) (s : Same H H1) (g : But p H1 H2) : Same H H2 := fun b u e => g b u (ne_of_none e hp) (s b u e)
theorem Same.put {l : Addr} {H H' : Hp} {o : HO} (h : H l = none) (s : Same H H') : Same H (upd H' l o) := fun b u e => by rw [upd_ne (ne_of_none e h)]; exact s b u e
theorem BookAt.same {H H' : Hp} {b tr tm : Addr} {rooms : List Int} {ps : List (Addr × M4)} (a : BookAt H b rooms tr tm ps) (t : Same H H') : BookAt H' b rooms tr tm ps := a.tups (Tups.same t)
theorem tyS_lst {H : Hp} {l : Addr} {xs : List V} (h : H l = some (.lst xs)) : tyS H (.ref l) = some "list" := by simp only [tyS, h]
def hasW (w : Int) (r : M4) : Bool := decide (r.lo = w) || decide (r.hi = w)
def numsTo (ms : List M4) (w : Int) : Nat → List Int
  | 0 => []
  | i + 1 => numsTo ms w i ++ (if (ms[i]?).any (hasW w) = true then [(i : Int)] else [])
end Sm
namespace Sm
open PySem L2 SmSort
def spTimeOf : Sp := fun vs H Q _ => ∃ p b j rooms tr tm ps, vs = [.ref p, .ref b, .int j] ∧ (j = 0 ∨ j = 1) ∧ BookAt H b rooms tr tm ps ∧ Good rooms.length (ps.map (·.2)) ∧ Purse H p ∧ ∀ d H', 0 ≤ d → d ≤ 1000000000 → Go p H H' → Q (.int d) H'
def spLetter : Sp := fun vs H Q _ => ∃ p b rooms tr tm ps, vs = [.ref p, .ref b] ∧ BookAt H b rooms tr tm ps ∧ 1 ≤ rooms.length ∧ rooms.length ≤ 1000 ∧ Good rooms.length (ps.map (·.2)) ∧ Purse H p ∧
  ∀ t (s a w z : Int) H', Go p H H' → H' t = some (.tup [.int s, .int a, .int w, .int z]) → 0 ≤ s → s < rooms.length → 0 ≤ w → w < rooms.length → 0 ≤ a → a ≤ 1000000000 → 0 ≤ z → z ≤ 1000000000 → Q (.ref t) H'
theorem Good.len {w : Int} {ps : List (Addr × M4)} (g : Good w (ps.map (·.2))) : ps.length ≤ 60 := by simpa using g.few
theorem Good.at {w : Int} {ps : List (Addr × M4)} (g : Good w (ps.map (·.2))) {r : Addr × M4} (h : r ∈ ps) : 0 ≤ r.2.lo ∧ r.2.lo < r.2.hi ∧ r.2.hi < w ∧ 1 ≤ r.2.t ∧ r.2.t ≤ 1000000000 ∧ 1 ≤ r.2.m ∧ r.2.m ≤ 99 := g.each _ (List.mem_map.mpr ⟨r, h, rfl⟩)
end Sm
namespace L2
open PySem PySem.Spec PyProof.Rows
end L2
set_option Elab.async false
set_option linter.all false
namespace Sm
open PySem L2 SmSort
theorem ixt {K : PySem.W.Frag} {H : Hp} {a : Addr} {xs : List V} {i : Int} {v : V} {Q : V → Prop} (h : H a = some (.tup xs)) (hi : atI xs i = some v) (q : Q v) : ∃ p xs' i' v', V.ref a = .ref p ∧ V.int i = .int i' ∧ SqT K H p xs' ∧ atI xs' i' = some v' ∧ Q v' := ⟨a, xs, i, v, rfl, rfl, SqT.of h, hi, q⟩
theorem ixl {K : PySem.W.Frag} {H : Hp} {a : Addr} {xs : List V} {i : Int} {v : V} {Q : V → Prop} (h : H a = some (.lst xs)) (hi : atI xs i = some v) (q : Q v) : ∃ p xs' i' v', V.ref a = .ref p ∧ V.int i = .int i' ∧ SqL K H p xs' ∧ atI xs' i' = some v' ∧ Q v' := ⟨a, xs, i, v, rfl, rfl, SqL.of h, hi, q⟩
theorem us1 {fd : FuncData} {ps : List Str} {us : List Value} (h : us.length = 1) (q : ∀ a, bindArgs fd ⟨[a], []⟩ = pure (ps.zip [a])) : bindArgs fd ⟨us, []⟩ = pure (ps.zip us) := match us, h with | [a], _ => q a
theorem us2 {fd : FuncData} {ps : List Str} {us : List Value} (h : us.length = 2) (q : ∀ a b, bindArgs fd ⟨[a, b], []⟩ = pure (ps.zip [a, b])) : bindArgs fd ⟨us, []⟩ = pure (ps.zip us) := match us, h with | [a, b], _ => q a b
theorem us3 {fd : FuncData} {ps : List Str} {us : List Value} (h : us.length = 3) (q : ∀ a b c, bindArgs fd ⟨[a, b, c], []⟩ = pure (ps.zip [a, b, c])) : bindArgs fd ⟨us, []⟩ = pure (ps.zip us) := match us, h with | [a, b, c], _ => q a b c
theorem ex7 {α0 α1 α2 α3 α4 α5 α6 : Type} {P : α0 → α1 → α2 → α3 → α4 → α5 → α6 → Prop} (x0 : α0) (x1 : α1) (x2 : α2) (x3 : α3) (x4 : α4) (x5 : α5) (x6 : α6) (h : P x0 x1 x2 x3 x4 x5 x6) : ∃ y0 : α0, ∃ y1 : α1, ∃ y2 : α2, ∃ y3 : α3, ∃ y4 : α4, ∃ y5 : α5, ∃ y6 : α6, P y0 y1 y2 y3 y4 y5 y6 := ⟨x0, x1, x2, x3, x4, x5, x6, h⟩
theorem un4 {K : PySem.W.Frag} {H : Hp} {a : Addr} {v0 v1 v2 v3 : V} {Q : V → V → V → V → Prop} (h : H a = some (.tup [v0, v1, v2, v3])) (q : Q v0 v1 v2 v3) : ∃ a' xs, V.ref a = .ref a' ∧ SqT K H a' xs ∧ xs.length = 4 ∧ ∃ w0 r0, xs = w0 :: r0 ∧ ∃ w1 r1, r0 = w1 :: r1 ∧ ∃ w2 r2, r1 = w2 :: r2 ∧ ∃ w3 r3, r2 = w3 :: r3 ∧ r3 = [] ∧ Q w0 w1 w2 w3 := ⟨a, _, rfl, SqT.of h, rfl, _, _, rfl, _, _, rfl, _, _, rfl, _, _, rfl, rfl, q⟩
theorem zr {α : Sort _} {A Q : α → Prop} {x : α} (a : A x) (q : Q x) : ∃ y, A y ∧ Q y := ⟨x, a, q⟩
theorem zr1 {α β : Sort _} {A Q : α → β → Prop} {x : α} {y : β} (a : A x y) (q : Q x y) : ∃ x y, A x y ∧ Q x y := ⟨x, y, a, q⟩
theorem zr2 {α β : Sort _} {A B Q : α → β → Prop} {x : α} {y : β} (a : A x y) (b : B x y) (q : Q x y) : ∃ x y, A x y ∧ B x y ∧ Q x y := ⟨x, y, a, b, q⟩
end Sm
set_option Elab.async false
set_option linter.all false
set_option maxRecDepth 100000
set_option maxHeartbeats 4000000
namespace L2
open PySem PySem.Spec PyProof.Rows
section
variable {X : Cx}
def oV : Option Int → V
  | none => .non
  | some i => .int i
end
end L2
namespace Sm
open PySem L2 SmSort
end Sm
set_option Elab.async false
set_option linter.all false
set_option maxRecDepth 100000
set_option maxHeartbeats 4000000
namespace Sm
open PySem L2 SmSort
abbrev Fn := Nat → Option Int
def put (f : Fn) (k : Nat) (x : Option Int) : Fn := fun i => if i = k then x else f i
theorem put_same {f : Fn} {k : Nat} {x : Option Int} : put f k x k = x := by unfold put; rw [if_pos rfl]
theorem put_ne {f : Fn} {k i : Nat} {x : Option Int} (h : i ≠ k) : put f k x i = f i := by unfold put; rw [if_neg h]
def lone (k : Nat) (x : Int) : Fn := fun i => if i = k then some x else none
def below (o : Option Int) (t : Int) : Bool := match o with
  | some y => decide (y < t)
  | none => false
theorem below_iff {o : Option Int} {t : Int} : below o t = true ↔ ∃ y, o = some y ∧ y < t := by
  cases o <;> simp [below]
def upto (o : Option Int) (t : Int) : Bool := match o with
  | some y => decide (y ≤ t)
  | none => false
structure W3 where
  g : Nat
  o : Nat
  t : Int
def two (m : M4) : List W3 := [⟨m.lo.toNat, m.hi.toNat, m.t⟩, ⟨m.hi.toNat, m.lo.toNat, m.t⟩]
def ways2 (ms : List M4) : List W3 := ms.flatMap two
def fstep (st : Fn) (x : W3) : Fn := if st x.o = none ∧ below (st x.g) x.t = true then put st x.o (some x.t) else st
def fwd (ms : List M4) (st : Fn) : Fn := (ways2 ms).foldl fstep st
theorem fstep_some {st : Fn} {x : W3} {i : Nat} {y : Int} (h : st i = some y) : fstep st x i = some y := by
  unfold fstep
  split
  · rename_i c
    by_cases e : i = x.o
    · rw [e, c.1] at h; cases h
    · rw [put_ne e]; exact h
  · exact h
def rep (n : Nat) (f : Fn) : List (Option Int) := (List.range n).map f
end Sm
namespace L2
open PySem PySem.Spec PyProof.Rows
section
variable {n : Nat} {caps : List Nat} {g : TG} {tc : TT} {te : TE} {σ : St} {H : Hp} {Qf : Addr → Hp → List V → Prop}
theorem comp_range {lo : Int} {m : Nat} (Pv : Nat → St → List V → Hp → Prop) (h0 : Pv 0 (tau0 n caps σ) [] H) (hn : m ≤ 1000) (hl : ∀ i τ acc H, Pv i τ acc H → acc.length ≤ i)
    (hs : ∀ i τ acc H (C : St → List V → Hp → Prop), i < m → Pv i τ acc H → (∀ τ acc H, Pv (i + 1) τ acc H → C τ acc H) → g (.int (lo + i)) τ H fun τ2 H2 => tc τ2 H2 fun b H3 => if b = true then te τ2 H3 fun y H4 => C τ2 (acc ++ [y]) H4 else C τ2 acc H3)
    (hd : ∀ τ acc H, Pv m τ acc H → ∀ p, H p = none → Qf p H acc) :
    ∃ W : Nat → Nat → St → List V → Hp → Prop, (∃ m, W 0 m (tau0 n caps σ) [] H) ∧ ∀ i m' τ acc H, W i m' τ acc H →
      ((Itr lo m).stop i H ∧ acc.length ≤ sizeLine ∧ ∀ p, H p = none → Qf p H acc) ∨
      ((Itr lo m).go i H ∧ acc.length < sizeLine ∧ ∀ x H', (Itr lo m).yld i H x H' → g x τ H' fun τ2 H2 => tc τ2 H2 fun b H3 => if b = true then te τ2 H3 fun y H4 => ∃ m'', m'' < m' ∧ W (i + 1) m'' τ2 (acc ++ [y]) H4 else ∃ m'', m'' < m' ∧ W (i + 1) m'' τ2 acc H3) :=
  comp_of (J := Itr lo m) Pv m h0 hn hl (fun i τ acc H hi p => hi) (fun τ acc H p => Nat.le_refl _)
    (fun i τ acc H C hi p c x H' y => by obtain ⟨e1, e2⟩ := y; subst e1; subst e2; exact hs i τ acc _ C hi p c) hd
end
end L2
set_option Elab.async false
set_option linter.all false
set_option maxRecDepth 100000
set_option maxHeartbeats 4000000
namespace Sm
open PySem L2 SmSort
def run (ws : List W3) (st : Fn) : Fn := ws.foldl fstep st
theorem run_keep : ∀ {ws : List W3} {st : Fn} {i : Nat} {y : Int}, st i = some y → run ws st i = some y
  | [], _, _, _, h => h
  | w :: ws, st, i, y, h => run_keep (ws := ws) (fstep_some h)
theorem run_from : ∀ {ws : List W3} {st : Fn} {i : Nat} {t : Int}, run ws st i = some t → st i = none → ∃ x ∈ ws, x.o = i ∧ x.t = t ∧ ∃ y, run ws st x.g = some y ∧ y < t
  | [], st, i, t, h, h0 => by
    have : st i = some t := h
    rw [h0] at this; cases this
  | w :: ws, st, i, t, h, h0 => by
    have h' : run ws (fstep st w) i = some t := h
    cases e : fstep st w i with
    | none =>
      obtain ⟨x, hx, a, b, y, hy, lt⟩ := run_from h' e
      exact ⟨x, .tail _ hx, a, b, y, hy, lt⟩
    | some z =>
      have z' := run_keep (ws := ws) e
      rw [h'] at z'; cases z'
      unfold fstep at e
      split at e
      · rename_i c
        by_cases io : i = w.o
        · subst io
          rw [put_same] at e; cases e
          obtain ⟨y, hy, lt⟩ := below_iff.mp c.2
          exact ⟨w, .head _, rfl, rfl, y, run_keep (ws := w :: ws) hy, lt⟩
        · rw [put_ne io, h0] at e; cases e
      · rw [h0] at e; cases e
end Sm
set_option Elab.async false
set_option linter.all false
set_option maxRecDepth 100000
set_option maxHeartbeats 4000000
namespace Sm
open PySem L2 SmSort
theorem Go.free {p l : Addr} {H H' : Hp} (g : Go p H H') (h : H' l = none) (np : l ≠ p) : H l = none := by
  cases e : H l with
  | none => rfl
  | some u => rw [g.1 l u np e] at h; cases h
end Sm
set_option Elab.async false
set_option linter.all false
set_option maxRecDepth 100000
set_option maxHeartbeats 4000000
namespace Sm
open PySem L2 SmSort
end Sm
namespace L2
open PySem
theorem iteN {c : Bool} {A : Prop} {D : Ends} {σ : St} {H : Hp} (Pre : St → Hp → Prop) (k : ∀ σ H, Pre σ H → D.nx σ H) (h1 : c = true → (∀ σ H, Pre σ H → D.nx σ H) → A) (h2 : c = false → Pre σ H) : if c = true then A else tNext D σ H := by
  cases c with
  | true => exact h1 rfl k
  | false => exact k _ _ (h2 rfl)
end L2
set_option Elab.async false
set_option linter.all false
namespace Sm
open PySem L2 SmSort
theorem iteO {c : Bool} {A B : Prop} {D : Ends} {σ : St} {H : Hp} (Pre : St → Hp → Prop) (k : ∀ σ H, Pre σ H → D.nx σ H) (h1 : c = true → (∀ σ H, Pre σ H → D.nx σ H) → A) (h2 : c = false → (∀ σ H, Pre σ H → D.nx σ H) → B) : if c = true then (if true = true then A else tNext D σ H) else B := by
  cases c with
  | true => exact h1 rfl k
  | false => exact h2 rfl k
theorem iteA {c : Bool} {T2 A : Prop} {D : Ends} {σ : St} {H : Hp} (Pre : St → Hp → Prop) (k : ∀ σ H, Pre σ H → D.nx σ H) (h1 : c = true → (∀ σ H, Pre σ H → D.nx σ H) → T2) (h2 : c = false → Pre σ H) : if c = true then T2 else (if false = true then A else tNext D σ H) := by
  cases c with
  | true => exact h1 rfl k
  | false => exact k _ _ (h2 rfl)
end Sm
set_option Elab.async false
set_option linter.all false
set_option maxRecDepth 100000
set_option maxHeartbeats 4000000
namespace Sm
open PySem L2 SmSort
theorem ahead {n : Nat} {ms : List M4} {m : M4} (g : Good n (ms ++ [m])) {v : Nat} {x y : Int} {i : Nat} (hi : i ≠ v) (h : fwd ms (lone v x) i = some y) : y ≤ m.t ∧ ((i = m.lo.toNat ∨ i = m.hi.toNat) → y < m.t) := by
  obtain ⟨a, ha, ao, at', _⟩ := run_from (ws := ways2 ms) h (by simp [lone, hi])
  unfold ways2 at ha
  obtain ⟨c, hc, hx⟩ := List.mem_flatMap.mp ha
  have od := (List.pairwise_append.mp g.order).2.2 c hc m (by simp)
  obtain ⟨c1, c2, c3, _⟩ := g.each c (by simp [hc])
  obtain ⟨m1, m2, m3, _⟩ := g.each m (by simp)
  unfold two at hx
  simp only [List.mem_cons, List.not_mem_nil, or_false] at hx
  have ct : c.t = y := by rcases hx with rfl | rfl <;> exact at'
  have ci : i = c.lo.toNat ∨ i = c.hi.toNat := by
    rcases hx with rfl | rfl
    · exact .inr ao.symm
    · exact .inl ao.symm
  refine ⟨by rcases od with h | h <;> omega, fun hm => ?_⟩
  rcases od with h | ⟨h1, h2, h3, h4, h5, h6⟩
  · omega
  · exfalso
    rcases ci with e | e <;> rcases hm with e' | e' <;> omega
end Sm
set_option Elab.async false
set_option linter.all false
set_option maxRecDepth 100000
set_option maxHeartbeats 4000000
namespace L2
open PySem PySem.Spec PyProof.Rows
section
variable {X : Cx} {pins : List (Addr × Obj)} {σ : St} {H : Hp} {s : Shared}
theorem ps_setComp {ix : Nat} {xn : Str} {pos' spos : Pos} {own : List Str} {caps : List Nat} {elt tg iter : Expr} {ifs : List Expr} {scope : Scope} {pos : Pos} {wi : TI} {g : TG} {tc : TT} {te : TE} (hN : X.N.Nodup) (hix : X.N[ix]? = some xn) (hxl : Loc X.env.scope xn) (hc : X.calm = true) (S : CompScope own caps X.N X.env.scope scope) (hi : PI X tg iter wi)
    (hg : ∀ s H fp C, PG (cxComp X own caps scope s H fp C) tg g) (ht : ∀ s H fp C, PTs (cxComp X own caps scope s H fp C) ifs tc) (he : ∀ s H fp C, PE (cxComp X own caps scope s H fp C) elt te)
    (hs : ∀ x, foldedSetIterable iter X.env x = pure x := by intro _; rfl) (hsw : swapsWith (.ListComp elt [⟨tg, iter, ifs, 0⟩] scope pos) (some (.Name xn pos')) spos.line X.env = pure true := by rfl)
    (hf : X.fn xn = true ∨ X.env.scope.names.lookup xn = some .local := by first | exact .inl rfl | exact .inr rfl | assumption) :
    PS X (.Assign [.Name xn pos'] (.ListComp elt [⟨tg, iter, ifs, 0⟩] scope pos) spos) (tAsg (tComp own.length caps wi g tc te) (gName ix)) := by
  intro pins s σ H D0 I h
  rw [exec_Assign_Name_used _ _ _ _ hsw, arm_evalThenUse_ListComp]
  suffices main : wpAny (model X.prog X.w) X.A (comprehension (.ListComp elt [⟨tg, iter, ifs, 0⟩] scope pos) scope X.env (firstIterPos [⟨tg, iter, ifs, 0⟩] pos) (newList []) false (eval iter X.env) (some (assign (.Name xn pos') X.env))) (fun _ s1 => SP X pins D0 .next s1) X.xe s from
    wpAny_bind (wpAny_standAt (wpAny_bind (wpAny_bind (wpAny_mono main (fun _ s1 h => wpAny_pure (wpAny_pure h)) fun _ _ e => e))))
  refine wpAny_comprehension_free (use := some _) (cl := clOf scope.names X.env []) rfl hs (closureFor_eq fun y hy e => I.ok.has y.1 (S.fr y hy e)) S.kind S.loc
    (wpAny_mono (hi pins s σ H _ I h) (fun v s1 h1 => thn h1 fun itv s2 h2 => ?_) fun _ _ e => e)
  obtain ⟨it, fp, tn, J, H2, e, I2, T, st2, f2, W, ⟨m0, w0⟩, turn⟩ := h2
  subst e
  refine wpAny_newObj_type (wpAny_newFunctionEnv S.nocell (by intro y hy; simp at hy) (fun h₁ hns₁ hsb₁ => ?_) S.kind)
  dsimp only at hns₁ hsb₁ ⊢
  generalize hH2 : s2.heap.push { cls := .type "list", dict := none, data := .seq ([] : List Value).toArray } = G at hns₁ hsb₁ ⊢
  have hG : G.objs.size = s2.heap.objs.size + 1 := by rw [← hH2, Heap.size_push]
  have hDC : s2.heap.objs.size ≠ G.objs.size := by rw [hG]; exact Nat.ne_of_lt (Nat.lt_succ_self _)
  have hCle : s2.heap.objs.size ≤ G.objs.size := by rw [hG]; exact Nat.le_succ _
  have below : ∀ b, b < s2.heap.objs.size → b ≠ G.objs.size := fun b hb => by rw [hG]; exact Nat.ne_of_lt (Nat.lt_succ_of_lt hb)
  have old : ∀ b o, s2.heap.get? b = some o → h₁.get? b = some o := fun b o e => hsb₁.extBut b o (below b (Heap.lt_size e)) (Heap.get?_push_of_some _ (hH2 ▸ Heap.get?_push_of_some _ e))
  have hacc : h₁.get? s2.heap.objs.size = some { cls := .type "list", dict := none, data := .seq ([] : List Value).toArray } := hsb₁.extBut _ _ hDC (Heap.get?_push_of_some _ (hH2 ▸ Heap.get?_push_size _ rfl))
  have fl : ∀ b ∈ fp, b < s2.heap.objs.size := fun b hb => let ⟨o, e, _⟩ := T.obj _ _ st2 b hb; Heap.lt_size e
  have hns₁' : h₁.Ns G.objs.size fun _ => none := hns₁
  have I4 := inv_comp (tk := s2.toks + ([] : List (Str × Value)).length) I2 S f2 fl (Nat.le_refl _) hCle hDC old hns₁' hacc (fun v z => nomatch z)
  have st4 : tn 0 h₁ := T.keep _ _ _ st2 fun b _ o e => old b o e
  generalize hs4 : ({ s2 with heap := h₁, toks := s2.toks + ([] : List (Str × Value)).length } : Shared) = s4 at I4 ⊢
  have e4 : s4.heap = h₁ := by rw [← hs4]
  rw [← e4] at st4
  -- the loop
  have loop : codeAny (model X.prog X.w) X.A (.compLoop (.ListComp elt [⟨tg, iter, ifs, 0⟩] scope pos) 0 (.ref it) (.ref s2.heap.objs.size) (compEnvC scope (clOf scope.names X.env []) G.objs.size X.env))
      (compPost (model X.prog X.w) X.A X.xe (some (assign (.Name xn pos') X.env)) (fun _ s1 => SP X pins D0 .next s1) (.ref s2.heap.objs.size) G.objs.size) s4 := by
    let Y := cxComp X own caps scope s2 H2 fp G.objs.size
    have stat : ∀ {H' : Hp} {its : List Value} {n : Nat}, (∀ b ∈ fp, H' b = none) → ∀ b ∈ fp, FpOk Y [(s2.heap.objs.size, ({ cls := .type "list", data := .seq its.toArray n } : Obj))] H' b := fun {H' its n} hn b hb => by
      refine ⟨hn b hb, below b (fl b hb), fun z => ?_, .inl hb, fun x c e => (f2 b hb).2.2.2.2.1 x c (clOf_lookup e), fun p hp => ?_⟩
      · rcases List.mem_cons.mp (I2.stkSub b z) with e | e
        · exact (f2 b hb).2.1 e
        · exact (f2 b hb).2.2.1 e
      · have e : p = (s2.heap.objs.size, ({ cls := .type "list", data := .seq its.toArray n } : Obj)) := by simpa using (show p ∈ [] ++ [_] from hp)
        subst e
        exact Nat.ne_of_gt (fl b hb)
    refine loop_comp (fun n s' => ∃ i τ acc its k H', Inv Y [(s2.heap.objs.size, ({ cls := .type "list", data := .seq its.toArray k } : Obj))] τ H' s' ∧ tn i s'.heap ∧ (∀ b ∈ fp, H' b = none) ∧ Vals acc its ∧ W i n τ acc H') ?_ m0
      ⟨0, _, [], [], 0, H2, I4, st4, fun b hb => (f2 b hb).1, .nil, w0⟩
    rintro n s5 ⟨i, τ, acc, its, k, H5, I5, st5, fr5, rv5, w5⟩
    rcases turn i n τ acc H5 w5 with ⟨stop, hz, q⟩ | ⟨go, hz, step⟩
    · refine thn (T.done Y rfl rfl rfl hc i _ s5 τ H5 (fun _ _ => False) I5 (stat fr5) st5 stop) fun r s6 ⟨hr, I6⟩ => ?_
      subst hr
      obtain ⟨eD, nD, _, _, _⟩ := I6.pin _ (List.mem_append_right _ (List.mem_singleton.mpr rfl))
      obtain ⟨m6, hm6, _⟩ := I6.loc
      have hC6 : H5 G.objs.size = none := I6.free
      have hok6 : HOk X.prog X.w H5 s6.heap := I6.hok
      have ub := I6.base
      have IX : Inv X pins σ (upd H5 s2.heap.objs.size (.lst acc)) s6 := by
        refine I2.call' (ch := fp) (s' := s6) I6.os ⟨fun b o e n' hb hx => ub.keep b o e n' hb hx, fun b o e n' hb hx => ?_, fun b o e n' hx => ?_, fun b o e hx => ?_, fun b xs e => ?_, fun b o u e => ?_, fun b ps e => ?_⟩
          (hok6.track nD ⟨hz, its, k, rv5, eD⟩) I6.bare fun b hb => ⟨(f2 b hb).2.2.2.1, (f2 b hb).2.1, (f2 b hb).2.2.2.2.1, (f2 b hb).2.2.2.2.2⟩
        · exact ub.slot b o e n' hb hx
        · rw [upd_ne (Nat.ne_of_lt (Heap.lt_size e))]
          exact ub.free b o e n' hx
        · exact ub.there b o e hx
        · have z := ub.tups b xs e
          rw [upd_ne (ne_of_none z nD)]; exact z
        · have z := ub.frzs b o u e
          rw [upd_ne (ne_of_none z nD)]; exact z
        · obtain ⟨more, z⟩ := ub.tbls b ps e
          exact ⟨more, by rw [upd_ne (ne_of_none z nD)]; exact z⟩
      have hCX : (upd H5 s2.heap.objs.size (.lst acc)) G.objs.size = none := by rw [upd_ne (Ne.symm hDC)]; exact hC6
      have fC : FpOk X pins (upd H5 s2.heap.objs.size (.lst acc)) G.objs.size := I2.fpOk hCle hCX
      obtain ⟨oC, esC, epC, gC, dC, rC⟩ := hm6
      have IP := IX.pinned (fp := [G.objs.size]) (fun b hb => by cases List.mem_singleton.mp hb; exact fC) (fun b hb => by cases List.mem_singleton.mp hb; exact ⟨oC, gC, fun v z => by rw [dC] at z; cases z⟩)
      refine wpAny_assign_Name (store_ok IP hN hix hxl (v := .ref s2.heap.objs.size) rfl (fun s7 I7 => ?_) hf)
      have pC := (I7.pin (G.objs.size, oC) (List.mem_append_right _ (List.mem_append_right _ (mem_pinsAt (List.mem_singleton.mpr rfl) gC)))).1
      refine ⟨m6, ⟨oC, esC, epC, pC, dC, rC⟩, fun h' hsb => ?_⟩
      have I8 : Inv X pins (σ.set ix (some (.ref s2.heap.objs.size))) (upd H5 s2.heap.objs.size (.lst acc)) { s7 with heap := h' } := I7.unpinned.turned (t' := s7.toks) (fun b o hb e => hsb.extBut b o hb e) fC.1 fC.2.1 fC.2.2.2.1 fC.2.2.2.2.1 fC.2.2.2.2.2
      exact ⟨_, _, I8, q _ nD⟩
    · refine thn (T.item Y rfl rfl rfl hc i _ s5 τ H5 (fun _ _ => False) I5 (stat fr5) st5 go) fun r s6 ⟨u, hr, h6⟩ => ?_
      subst hr
      refine thn h6 fun _ s7 ⟨x, H7, I7, r7, y7, st7, fr7⟩ => ?_
      have I7' := I7.pinned (stat fr7) (T.obj _ _ st7)
      refine thn (hg s2 H2 fp G.objs.size _ s7 τ H7 x u _ I7' r7 (step x H7 y7)) fun _ s8 ⟨τ8, H8, I8, q8⟩ => ?_
      refine thn (ht s2 H2 fp G.objs.size _ s8 τ8 H8 _ I8 q8) fun ok s9 ⟨H9, I9, q9⟩ => ?_
      -- the iterator's state behind the turn
      have back : ∀ {s' : Shared} {τ' : St} {H' : Hp}, Inv Y ([(s2.heap.objs.size, ({ cls := .type "list", data := .seq its.toArray k } : Obj))] ++ pinsAt fp s7.heap) τ' H' s' → (tn (i + 1) s'.heap ∧ ∀ b ∈ fp, H' b = none) := fun {s' τ' H'} Ib =>
        ⟨T.keep _ _ _ st7 fun b hb o e => (Ib.pin (b, o) (List.mem_append_right _ (List.mem_append_right _ (mem_pinsAt hb e)))).1, fun b hb => by
          obtain ⟨o, e, d⟩ := T.obj _ _ st7 b hb
          exact (Ib.pin (b, o) (List.mem_append_right _ (List.mem_append_right _ (mem_pinsAt hb e)))).2.1⟩
      cases ok with
      | false =>
        obtain ⟨m', hm', w'⟩ := q9
        obtain ⟨sb, fb⟩ := back I9
        exact ⟨m', hm', i + 1, τ8, acc, its, k, H9, I9.unpinned, sb, fb, rv5, w'⟩
      | true =>
        refine thn (he s2 H2 fp G.objs.size _ s9 τ8 H9 _ I9 q9) fun y s10 ⟨yv, H10, I10, r10, q10⟩ => ?_
        obtain ⟨m', hm', w'⟩ := q10
        obtain ⟨sb, fb⟩ := back I10
        obtain ⟨eD, nD, neD, nfD, _⟩ := I10.pin (s2.heap.objs.size, _) (List.mem_append_right _ (List.mem_append_left _ (List.mem_singleton.mpr rfl)))
        have hl : acc.length = its.length := rv5.length
        refine call_meets F.slot_list_append ⟨_, eD, rfl⟩ F.entry_list_append (F.args_list_append_2 _ _) (PySem.list_append s2.heap.objs.size its.toArray k y (by rw [List.size_toArray]; omega)) ⟨eD, ?_⟩
        have q := PySem.IsL.update eD (fun a : Array Value => a.push y)
        have Iu : Inv Y [] τ8 H10 s10 := I10.pins_of fun p hp => nomatch hp
        have It := Iu.turned (t' := s10.toks) (it := s2.heap.objs.size) (h' := s10.heap.update s2.heap.objs.size (Obj.mapSeq (fun a : Array Value => a.push y))) (fun b o hb e => (Heap.get?_update_other s10.heap _ (Ne.symm hb)).trans e) nD neD (.inr (Nat.le_refl _))
          (fun x c e z => by
            obtain ⟨v, ob, hob, _⟩ := I2.cell x c (clOf_lookup e)
            exact absurd (Heap.lt_size hob) (by rw [z]; exact Nat.lt_irrefl _)) (fun p hp => nomatch hp)
        have It' := It.pins_of (pins' := [(s2.heap.objs.size, ({ cls := .type "list", data := .seq (its ++ [y]).toArray (k + 1) } : Obj))]) fun p hp => by
          have e : p = _ := List.mem_singleton.mp hp
          subst e
          exact ⟨by simpa using q, nD, neD, nfD, fun v z => nomatch z⟩
        refine ⟨m', hm', i + 1, τ8, acc ++ [yv], its ++ [y], _, H10, It', T.keep _ _ _ sb fun b hb o e => (Heap.get?_update_other s10.heap _ (Nat.ne_of_gt (fl b hb))).trans e, fb, rv5.append (.cons r10 .nil), w'⟩
  exact codeAny_compStart_list loop (T.self _ 0 s4 _ _ st4 loop)
end
end L2
set_option Elab.async false
set_option linter.all false
set_option maxRecDepth 100000
set_option maxHeartbeats 400000
namespace Sm
open PySem L2 SmSort
def jstep (row F : Fn) (x : W3) : Fn := if below (row x.g) x.t = true ∧ upto (F x.o) x.t = false then put F x.o (some x.t) else F
def jac (ws : List W3) (row : Fn) : Fn := ws.foldl (jstep row) row
def jrow (ws : List W3) (row : Fn) : Nat → Fn
  | 0 => row
  | k + 1 => jac ws (jrow ws row k)
def rk (ws : List W3) : Option Int → Nat
  | none => ws.length + 1
  | some y => ws.countP fun x => decide (x.t < y)
end Sm
set_option Elab.async false
set_option linter.all false
set_option maxRecDepth 100000
set_option maxHeartbeats 400000
namespace Sm
open PySem L2 SmSort
structure Rows (H0 H : Hp) (ms : List M4) (n k : Nat) (x : Int) (as : List Addr) : Prop where
  pos : as ≠ []
  few : as.length ≤ 200000
  at' : ∀ (i : Nat) (a : Addr), as[i]? = some a → H0 a = none ∧ H a = some (.lst ((rep n (jrow (ways2 ms) (lone k x) i)).map oV))
  ne : ∀ i, i + 1 < as.length → rep n (jrow (ways2 ms) (lone k x) (i + 1)) ≠ rep n (jrow (ways2 ms) (lone k x) i)
  last : rep n (jrow (ways2 ms) (lone k x) as.length) = rep n (jrow (ways2 ms) (lone k x) (as.length - 1))
end Sm
namespace L2
open PySem PySem.Spec PyProof.Rows
section
variable {K : PySem.W.Frag} {a : Addr} {xs : List V} {n : Nat} {caps : List Nat} {g : TG} {tc : TT} {te : TE} {σ : St} {H : Hp} {Qf : Addr → Hp → List V → Prop}
end
end L2
namespace Sm
open PySem L2 SmSort
end Sm
namespace Sm
open PySem L2 SmSort
end Sm
namespace Sm
open PySem L2
end Sm
set_option Elab.async false
set_option linter.all false
set_option maxRecDepth 100000
set_option maxHeartbeats 400000
namespace Sm
open PySem L2 SmSort
def again (ms : List M4) (day first : Int) : Nat → List M4
  | 0 => []
  | r + 1 => again ms day first r ++ ms.map (M4.late ((first + r) * day))
end Sm
set_option Elab.async false
set_option linter.all false
set_option maxRecDepth 100000
set_option maxHeartbeats 400000
namespace L2
open PySem PySem.Spec PyProof.Rows
section
variable {X : Cx} {pins : List (Addr × Obj)} {σ : St} {H : Hp} {s : Shared}
theorem vals_at {xs : List V} {us : List Value} (r : Vals xs us) {j : Nat} (h : j < us.toArray.size) : ∃ x, xs[j]? = some x ∧ RelV x us.toArray[j] := by
  have hl := r.length
  simp only [List.size_toArray] at h
  have a1 : j < xs.length := by omega
  obtain ⟨u, eu, ru⟩ := r.get (i := j) (x := xs[j]) (by simp [a1])
  have e1 : us.toArray[j] = u := by rw [List.getElem_toArray]; exact Option.some.inj ((List.getElem?_eq_getElem h).symm.trans eu)
  exact ⟨xs[j], by simp [a1], by rw [e1]; exact ru⟩
end
end L2
set_option Elab.async false
set_option linter.all false
set_option maxRecDepth 100000
set_option maxHeartbeats 400000
namespace Sm
open PySem L2 SmSort
def whenOf (ms : List M4) (j : Int) : Int := ((ms[j.toNat]?).map (·.t)).getD 0
def whens (ms : List M4) (k : Nat) : List Int := (numsTo ms k ms.length).map (whenOf ms)
section
variable {n k w : Nat} {ms : List M4} {day : Int}
end
def nextOf (ts : List (Int × Int)) (b : Int) (k : Nat) : Int := match ts[k + 1]? with
  | some q => q.1
  | none => b
end Sm
set_option Elab.async false
set_option linter.all false
set_option maxRecDepth 100000
set_option maxHeartbeats 400000
namespace L2
open PySem PySem.Spec PyProof.Rows
def Eqv (K : PySem.W.Frag) (H : Hp) : Nat → V → V → Bool → Prop
  | 0, x, y, b => (x = y ∧ (∃ a, x = .ref a) ∧ b = true) ∨ (flatV x = true ∧ flatV y = true ∧ b = eqV x y)
  | n + 1, x, y, b => (x = y ∧ (∃ a, x = .ref a) ∧ b = true) ∨ (flatV x = true ∧ flatV y = true ∧ b = eqV x y) ∨ ∃ (a c : Addr) (xs ys : List V) (e : Nat → Bool), x = .ref a ∧ y = .ref c ∧ ((SqL K H a xs ∧ SqL K H c ys) ∨ (SqT K H a xs ∧ SqT K H c ys)) ∧ (a = c → b = true) ∧ b = (decide (xs.length = ys.length) && (List.range xs.length).all e) ∧ ∀ (i : Nat) (x y : V), xs[i]? = some x → ys[i]? = some y → Eqv K H n x y (e i)
section
variable {X : Cx} {pins : List (Addr × Obj)} {σ : St} {H : Hp} {s : Shared}
theorem eqv_eq (I : Inv X pins σ H s) : ∀ (n : Nat) {A : Around} {x y : V} {b : Bool} {u v : Value}, A.units + n < cLine → Eqv X.K H n x y b → RelV x u → RelV y v → SeqAt.EqAt A s u v b
  | n, A, x, y, b, u, v, hu, h, ru, rv => by
    have base1 : x = y ∧ (∃ a, x = .ref a) ∧ b = true → SeqAt.EqAt A s u v b := by
      rintro ⟨rfl, ⟨a, rfl⟩, rfl⟩
      cases ru; cases rv
      exact SeqAt.EqAt.same _
    have base2 : flatV x = true ∧ flatV y = true ∧ b = eqV x y → SeqAt.EqAt A s u v b := by
      rintro ⟨h1, h2, rfl⟩
      exact eqAt_V (A := A) (s := s) ru rv h1 h2
    cases n with
    | zero => exact h.elim base1 base2
    | succ n =>
      rcases h with h | h | ⟨a, c, xs, ys, e, rfl, rfl, h, hs, hb, hi⟩
      · exact base1 h
      · exact base2 h
      · cases ru; cases rv
        by_cases ne : a = c
        · rw [hs ne, ne]; exact SeqAt.EqAt.same _
        refine SeqAt.EqAt.of_refs ne ?_
        rcases h with ⟨h1, h2⟩ | ⟨h1, h2⟩
        · obtain ⟨its, r1, p1, _⟩ := I.list h1
          obtain ⟨its2, r2, p2, _⟩ := I.list h2
          have l1 := r1.length
          have l2 := r2.length
          by_cases hl : xs.length = ys.length
          · have := SeqAt.RcAt.lists (A := A) (e := e) p1.isList p2.isList (by simp; omega) (by omega) fun j h1 h2 => by
              obtain ⟨x, ex, rx⟩ := vals_at r1 h1
              obtain ⟨y, ey, ry⟩ := vals_at r2 h2
              exact eqv_eq I n (by show A.units + 1 + n < cLine; omega) (hi j x y ex ey) rx ry
            rw [hb, decide_eq_true hl, Bool.true_and, l1]
            simpa using this
          · rw [hb, decide_eq_false hl, Bool.false_and]
            exact SeqAt.RcAt.lists_lengths (A := A) p1.isList p2.isList (by simp; omega) (by omega)
        · obtain ⟨its, r1, p1, _⟩ := I.tuple h1
          obtain ⟨its2, r2, p2, _⟩ := I.tuple h2
          have l1 := r1.length
          have l2 := r2.length
          have := SeqAt.RcAt.tuples (A := A) (e := e) p1 p2 (by omega) fun j h1 h2 => by
            obtain ⟨x, ex, rx⟩ := vals_at r1 h1
            obtain ⟨y, ey, ry⟩ := vals_at r2 h2
            exact eqv_eq I n (by show A.units + 1 + n < cLine; omega) (hi j x y ex ey) rx ry
          by_cases hl : xs.length = ys.length
          · rw [hb, decide_eq_true hl, Bool.true_and, l1]
            have e1 : its2.length = its.length := by omega
            simpa [e1] using this
          · rw [hb, decide_eq_false hl, Bool.false_and]
            have e1 : ¬ its.length = its2.length := by omega
            have e2 : (its.toArray.size == its2.toArray.size) = false := by simp [e1]
            rw [e2, Bool.and_false] at this
            exact this
def rEqv (K : PySem.W.Frag) (neg : Bool) : R2 := fun x y H Q => ∃ (n : Nat) (a c : Addr) (xs ys : List V) (e : Nat → Bool) (b : Bool), n ≤ 20 ∧ x = .ref a ∧ y = .ref c ∧ ((SqL K H a xs ∧ SqL K H c ys) ∨ (SqT K H a xs ∧ SqT K H c ys)) ∧ b = (decide (xs.length = ys.length) && (List.range xs.length).all e) ∧ (∀ (i : Nat) (x y : V), xs[i]? = some x → ys[i]? = some y → Eqv K H n x y (e i)) ∧ Q (.bl (if neg then !b else b)) H
theorem op_eqE (hu : X.A.units + 64 < cLine) : OpR X (compareOp .Eq) (rEqv X.K false) := by
  intro pins s σ H x y v u Q I rx ry h
  obtain ⟨n, a, c, xs, ys, e, b, hn, rfl, rfl, h, hb, hi, q⟩ := h
  cases rx; cases ry
  rw [if_neg (by decide), hb] at q
  rcases h with ⟨h1, h2⟩ | ⟨h1, h2⟩
  · obtain ⟨its, r1, p1, _⟩ := I.list h1
    obtain ⟨its2, r2, p2, _⟩ := I.list h2
    have l1 := r1.length
    have l2 := r2.length
    by_cases hl : xs.length = ys.length
    · rw [decide_eq_true hl, Bool.true_and, l1] at q
      exact SeqAt.RcAt.lists (e := e) p1.isList p2.isList (by simp; omega) (by omega) (fun j h1 h2 => by
        obtain ⟨x, ex, rx⟩ := vals_at r1 h1
        obtain ⟨y, ey, ry⟩ := vals_at r2 h2
        exact eqv_eq I n (by show X.A.units + 1 + n < cLine; omega) (hi j x y ex ey) rx ry) _ _ _ _ ⟨.bl _, H, I, rfl, by simpa using q⟩
    · rw [decide_eq_false hl, Bool.false_and] at q
      exact SeqAt.RcAt.lists_lengths p1.isList p2.isList (by simp; omega) (by omega) _ _ _ _ ⟨.bl _, H, I, rfl, q⟩
  · obtain ⟨its, r1, p1, _⟩ := I.tuple h1
    obtain ⟨its2, r2, p2, _⟩ := I.tuple h2
    have l1 := r1.length
    have l2 := r2.length
    have key : ((List.range (min its.toArray.size its2.toArray.size)).all e && its.toArray.size == its2.toArray.size) = (decide (xs.length = ys.length) && (List.range xs.length).all e) := by
      by_cases hl : xs.length = ys.length
      · have e1 : its2.length = its.length := by omega
        rw [decide_eq_true hl, Bool.true_and, l1]; simp [e1]
      · have e1 : ¬ its.length = its2.length := by omega
        rw [decide_eq_false hl, Bool.false_and]; simp [e1]
    rw [← key] at q
    exact SeqAt.RcAt.tuples (e := e) p1 p2 (by omega) (fun j h1 h2 => by
      obtain ⟨x, ex, rx⟩ := vals_at r1 h1
      obtain ⟨y, ey, ry⟩ := vals_at r2 h2
      exact eqv_eq I n (by show X.A.units + 1 + n < cLine; omega) (hi j x y ex ey) rx ry) _ _ _ _ ⟨.bl _, H, I, rfl, q⟩
theorem op_neE (hu : X.A.units + 64 < cLine) : OpR X (compareOp .NotEq) (rEqv X.K true) := by
  intro pins s σ H x y v u Q I rx ry h
  obtain ⟨n, a, c, xs, ys, e, b, hn, rfl, rfl, h, hb, hi, q⟩ := h
  cases rx; cases ry
  rw [if_pos rfl, hb] at q
  rcases h with ⟨h1, h2⟩ | ⟨h1, h2⟩
  · obtain ⟨its, r1, p1, _⟩ := I.list h1
    obtain ⟨its2, r2, p2, _⟩ := I.list h2
    have l1 := r1.length
    have l2 := r2.length
    by_cases hl : xs.length = ys.length
    · rw [decide_eq_true hl, Bool.true_and, l1] at q
      exact SeqAt.RcNeAt.lists (e := e) p1.isList p2.isList (by simp; omega) (by omega) (fun j h1 h2 => by
        obtain ⟨x, ex, rx⟩ := vals_at r1 h1
        obtain ⟨y, ey, ry⟩ := vals_at r2 h2
        exact eqv_eq I n (by show X.A.units + 1 + n < cLine; omega) (hi j x y ex ey) rx ry) _ _ _ _ ⟨.bl _, H, I, rfl, by simpa using q⟩
    · rw [decide_eq_false hl, Bool.false_and] at q
      exact SeqAt.RcNeAt.lists_lengths p1.isList p2.isList (by simp; omega) (by omega) _ _ _ _ ⟨.bl _, H, I, rfl, q⟩
  · obtain ⟨its, r1, p1, _⟩ := I.tuple h1
    obtain ⟨its2, r2, p2, _⟩ := I.tuple h2
    have l1 := r1.length
    have l2 := r2.length
    have key : ((List.range (min its.toArray.size its2.toArray.size)).all e && its.toArray.size == its2.toArray.size) = (decide (xs.length = ys.length) && (List.range xs.length).all e) := by
      by_cases hl : xs.length = ys.length
      · have e1 : its2.length = its.length := by omega
        rw [decide_eq_true hl, Bool.true_and, l1]; simp [e1]
      · have e1 : ¬ its.length = its2.length := by omega
        rw [decide_eq_false hl, Bool.false_and]; simp [e1]
    rw [← key] at q
    exact SeqAt.RcNeAt.tuples (e := e) p1 p2 (by omega) (fun j h1 h2 => by
      obtain ⟨x, ex, rx⟩ := vals_at r1 h1
      obtain ⟨y, ey, ry⟩ := vals_at r2 h2
      exact eqv_eq I n (by show X.A.units + 1 + n < cLine; omega) (hi j x y ex ey) rx ry) _ _ _ _ ⟨.bl _, H, I, rfl, q⟩
end
end L2
set_option Elab.async false
set_option linter.all false
set_option maxRecDepth 100000
set_option maxHeartbeats 400000
namespace SmSet
open PySem
def adv (m : Nat) (p : SetTable.Probe) : SetTable.Probe :=
  if p.more > 0 then { p with j := p.j + 1, more := p.more - 1 } else
  { p with j := (SetTable.leap m p.i p.perturb).1, more := SetTable.runEnd m (SetTable.leap m p.i p.perturb).1 - (SetTable.leap m p.i p.perturb).1, i := (SetTable.leap m p.i p.perturb).1, perturb := (SetTable.leap m p.i p.perturb).2 }
def run (m i u : Nat) : SetTable.Probe := { j := i, more := SetTable.runEnd m i - i, i, perturb := u, dummy := none }
def start (m : Nat) (h : Int) : SetTable.Probe := run m (SetTable.bits h % (m + 1)) (SetTable.bits h)
def ad (m : Nat) : Nat → SetTable.Probe → SetTable.Probe
  | 0, p => p
  | n + 1, p => ad m n (adv m p)
def at' (m : Nat) (h : Int) (n : Nat) : Nat := (ad m n (start m h)).j
def runs (m : Nat) : Nat → Nat → Nat → Nat × Nat
  | 0, i, u => (i, u)
  | r + 1, i, u => runs m r ((i * 5 + 1 + u / 32) % (m + 1)) (u / 32)
theorem runs_add {m : Nat} : ∀ (a b i u : Nat), runs m (a + b) i u = runs m b (runs m a i u).1 (runs m a i u).2
  | 0, b, i, u => by rw [Nat.zero_add]; rfl
  | a + 1, b, i, u => by rw [Nat.succ_add]; exact runs_add a b _ _
theorem runs_perturb {m : Nat} : ∀ (r i u : Nat), (runs m r i u).2 = u / 32 ^ r
  | 0, i, u => by simp [runs]
  | r + 1, i, u => by
    show (runs m r _ (u / 32)).2 = _
    rw [runs_perturb r, Nat.div_div_eq_div_mul, Nat.pow_succ, Nat.mul_comm]
theorem runs_small {m : Nat} : ∀ (r i u : Nat), i ≤ m → (runs m r i u).1 ≤ m
  | 0, i, u, h => h
  | r + 1, i, u, h => runs_small r _ _ (Nat.lt_succ_iff.mp (Nat.mod_lt _ (by omega)))
def f5 (m : Nat) : Nat → Nat → Nat
  | 0, i => i
  | s + 1, i => f5 m s ((i * 5 + 1) % (m + 1))
theorem runs_f5 {m : Nat} : ∀ (s i : Nat), (runs m s i 0).1 = f5 m s i
  | 0, i => rfl
  | s + 1, i => by
    show (runs m s ((i * 5 + 1 + 0 / 32) % (m + 1)) (0 / 32)).1 = f5 m s ((i * 5 + 1) % (m + 1))
    rw [Nat.zero_div, Nat.add_zero]
    exact runs_f5 s _
theorem f5_add {m : Nat} : ∀ (a b i : Nat), f5 m (a + b) i = f5 m b (f5 m a i)
  | 0, b, i => by rw [Nat.zero_add]; rfl
  | a + 1, b, i => by rw [Nat.succ_add]; exact f5_add a b _
def bitsOf (m : Nat) : Nat → Nat → Nat → Nat
  | 0, _, acc => acc
  | s + 1, i, acc => bitsOf m s ((i * 5 + 1) % (m + 1)) (acc ||| (2 ^ i))
theorem bitsOf_spec {m j : Nat} : ∀ (s i acc : Nat), (bitsOf m s i acc).testBit j = true → acc.testBit j = true ∨ ∃ a, a < s ∧ f5 m a i = j
  | 0, i, acc, h => .inl h
  | s + 1, i, acc, h => by
    rcases bitsOf_spec s _ _ h with h | ⟨a, ha, e⟩
    · rw [Nat.testBit_or, Bool.or_eq_true] at h
      rcases h with h | h
      · exact .inl h
      · rw [Nat.testBit_two_pow] at h
        exact .inr ⟨0, by omega, of_decide_eq_true h⟩
    · exact .inr ⟨a + 1, by omega, e⟩
def Mask (m : Nat) : Prop := m = 7 ∨ m = 31 ∨ m = 127 ∨ m = 511
theorem cover0 {m : Nat} (hm : Mask m) : f5 m (m + 1) 0 = 0 ∧ ∀ j, j ≤ m → ∃ a, a ≤ m ∧ f5 m a 0 = j := by
  have key : f5 m (m + 1) 0 = 0 ∧ bitsOf m (m + 1) 0 0 = 2 ^ (m + 1) - 1 := by
    rcases hm with rfl | rfl | rfl | rfl <;> constructor <;> decide +kernel
  refine ⟨key.1, fun j hj => ?_⟩
  have : (bitsOf m (m + 1) 0 0).testBit j = true := by
    rw [key.2, Nat.testBit_two_pow_sub_one]
    exact decide_eq_true (by omega)
  rcases bitsOf_spec _ _ _ this with h | ⟨a, ha, e⟩
  · simp at h
  · exact ⟨a, by omega, e⟩
theorem cover {m i j : Nat} (hm : Mask m) (hi : i ≤ m) (hj : j ≤ m) : ∃ s, s ≤ m ∧ f5 m s i = j := by
  obtain ⟨z, all⟩ := cover0 hm
  obtain ⟨a, ha, rfl⟩ := all i hi
  obtain ⟨b, hb, rfl⟩ := all j hj
  by_cases c : a ≤ b
  · exact ⟨b - a, by omega, by rw [← f5_add]; congr 1; omega⟩
  · refine ⟨b + (m + 1) - a, by omega, ?_⟩
    rw [← f5_add, show a + (b + (m + 1) - a) = (m + 1) + b from by omega, f5_add, z]
theorem reach {m i u j : Nat} (hm : Mask m) (hi : i ≤ m) (hu : u < 2 ^ 64) (hj : j ≤ m) : ∃ r, r ≤ m + 13 ∧ (runs m r i u).1 = j := by
  have p0 : (runs m 13 i u).2 = 0 := by
    rw [runs_perturb]
    exact Nat.div_eq_of_lt (Nat.lt_of_lt_of_le hu (by decide))
  obtain ⟨s, hs, e⟩ := cover hm (runs_small 13 i u hi) hj
  refine ⟨13 + s, by omega, ?_⟩
  rw [runs_add, p0, runs_f5, e]
end SmSet
set_option Elab.async false
set_option linter.all false
set_option maxRecDepth 100000
set_option maxHeartbeats 4000000
namespace L2
open PySem PySem.Spec PyProof.Rows
section
variable {prog : Program} {w : World} {A : Around} {E : Value → Shared → Prop} {s : Shared}
structure ZD (prog : Program) (w : World) (A : Around) (z TI TO i1 i2 : Addr) (fp1 fp2 : List Addr) (n : Nat) (P1 P2 : Nat → Value → Prop) (S1 S2 : Nat → Heap → Prop) : Prop where
  d1 : Draws prog w A i1 fp1 n P1 S1
  d2 : Draws prog w A i2 fp2 n P2 S2
  ne : TI ≠ z ∧ TO ≠ z ∧ i1 ≠ z ∧ i2 ≠ z ∧ TI ≠ TO ∧ TI ≠ i1 ∧ TI ≠ i2 ∧ TO ≠ i1 ∧ TO ≠ i2 ∧ i1 ≠ i2
  f1 : z ∉ fp1 ∧ TO ∉ fp1 ∧ i2 ∉ fp1
  f2 : z ∉ fp2 ∧ TO ∉ fp2 ∧ i1 ∉ fp2
variable {z TI TO i1 i2 : Addr} {fp1 fp2 : List Addr} {n : Nat} {P1 P2 : Nat → Value → Prop} {S1 S2 : Nat → Heap → Prop}
theorem keep_of {fp : List Addr} {a : Addr} {h h' : Heap} (n : a ∉ fp) (x : Heap.SameBut a h h') : ∀ b ∈ fp, ∀ o, h.get? b = some o → h'.get? b = some o := fun b hb o e => x.extBut b o (fun q => n (q ▸ hb)) e
theorem zd_item {k : Nat} {a b : Value} {Q : Value → Shared → Prop} (D : ZD prog w A z TI TO i1 i2 fp1 fp2 n P1 P2 S1 S2) (hk : k < n)
    (hz : IsZip s.heap z TI TO .none) (hTI : IsPair s.heap TI (.ref i1) (.ref i2)) (hTO : IsPair s.heap TO a b) (t1 : S1 k s.heap) (t2 : S2 k s.heap)
    (hQ : ∀ x y h' tk, P1 k x → P2 k y → IsZip h' z TI TO (rawInt s.heap.objs.size) → IsPair h' TO x y → S1 (k + 1) h' → S2 (k + 1) h' → IsPair h' s.heap.objs.size x y → h'.objs.size = s.heap.objs.size + 1 →
      (∀ c o, c ≠ z → c ≠ TO → c ≠ i1 → c ≠ i2 → s.heap.get? c = some o → h'.get? c = some o) → Q (.ref s.heap.objs.size) { s with heap := h', toks := tk })
    (w1 : ∀ b ∈ fp1, b < s.heap.objs.size) (w2 : ∀ b ∈ fp2, b < s.heap.objs.size) :
    wpAny (model prog w) A (Builtin.«zip.__next__» ⟨[.ref z], []⟩) (fun fin s' => ∃ v, fin = .done (.ret v) ∧ Q v s') E s := by
  obtain ⟨n1, n2, n3, n4, n5, n6, n7, n8, n9, n10⟩ := D.ne
  show wpAny _ _ (field (.ref z) 2 >>= _) _ _ _
  refine wpAny_bind (wpAny_field hz rfl (x := .bool false) rfl ?_)
  show wpAny _ _ (field (.ref z) 3 >>= _) _ _ _
  refine wpAny_bind (wpAny_field hz rfl (x := .ref TI) rfl (wpAny_bind (wpAny_seqItems hTI rfl ?_)))
  show wpAny _ _ (Builtin.SmallTypes.ownedTupleIsFree (.ref z) >>= _) _ _ _
  refine wpAny_bind ?_
  unfold Builtin.SmallTypes.ownedTupleIsFree
  refine wpAny_bind (wpAny_field hz rfl (x := .none) rfl (wpAny_pure ?_))
  simp only [if_true]
  refine wpAny_bind (wpAny_rule (wpAny_bind (wpAny_field hz rfl (x := .ref TO) rfl (wpAny_bind (wpAny_setField_rec hz (by simp) fun h1 hz1 e1 => wpAny_bind ?_)))))
  replace hz1 : IsZip h1 z TI TO .ellipsis := hz1
  simp only [List.zipIdx_cons, List.zipIdx_nil, List.forIn_cons, List.forIn_nil]
  refine wpAny_bind (wpAny_bind (wpAny_onRaise (show wpAny _ _ (Builtin.SmallTypes.nextOf (.ref i1) >>= _) _ _ _ from wpAny_bind (D.d1.item k _ _ _ hk (D.d1.frame _ _ _ t1 (keep_of D.f1.1 e1)) fun x h2 tk2 px u1 e2 => wpAny_pure ?_))))
  have o2 : IsPair h2 TO a b := e2.extBut _ _ n8 (e1.extBut _ _ n2 hTO)
  refine wpAny_bind (wpAny_seqItems o2 rfl (wpAny_bind (wpAny_updateSeq_pair o2 fun h3 o3 e3 => wpAny_bind (wpAny_letGo (wpAny_pure ?_)))))
  replace o3 : IsPair h3 TO x b := o3
  refine wpAny_bind (wpAny_bind (wpAny_onRaise (show wpAny _ _ (Builtin.SmallTypes.nextOf (.ref i2) >>= _) _ _ _ from wpAny_bind (D.d2.item k _ _ _ hk (D.d2.frame _ _ _ (D.d2.frame _ _ _ (D.d2.frame _ _ _ t2 (keep_of D.f2.1 e1)) (keep_of D.f2.2.2 e2)) (keep_of D.f2.2.1 e3)) fun y h4 tk4 py u2 e4 => wpAny_pure ?_))))
  have o4 : IsPair h4 TO x b := e4.extBut _ _ n9 o3
  refine wpAny_bind (wpAny_seqItems o4 rfl (wpAny_bind (wpAny_updateSeq_pair o4 fun h5 o5 e5 => wpAny_bind (wpAny_letGo (wpAny_pure (wpAny_pure ?_))))))
  replace o5 : IsPair h5 TO x y := o5
  refine wpAny_bind (wpAny_seqItems o5 rfl (wpAny_bind (wpAny_newTuple ?_)))
  have sz : h5.objs.size = s.heap.objs.size := by rw [e5.1, e4.1, e3.1, e2.1, e1.1]
  have z5 : IsZip h5 z TI TO .ellipsis := e5.extBut _ _ n2.symm (e4.extBut _ _ n4.symm (e3.extBut _ _ n2.symm (e2.extBut _ _ n3.symm hz1)))
  have old : ∀ c o, c ≠ z → c ≠ TO → c ≠ i1 → c ≠ i2 → s.heap.get? c = some o → h5.get? c = some o := fun c o c1 c2 c3 c4 e =>
    e5.extBut _ _ c2 (e4.extBut _ _ c4 (e3.extBut _ _ c2 (e2.extBut _ _ c3 (e1.extBut _ _ c1 e))))
  have v1 : S1 (k + 1) h5 := D.d1.frame _ _ _ (D.d1.frame _ _ _ (D.d1.frame _ _ _ u1 (keep_of D.f1.2.1 e3)) (keep_of D.f1.2.2 e4)) (keep_of D.f1.2.1 e5)
  have v2 : S2 (k + 1) h5 := D.d2.frame _ _ _ u2 (keep_of D.f2.2.1 e5)
  have zl : z < h5.objs.size := Heap.lt_size z5
  show wpAny _ _ (Builtin.SmallTypes.ownedTupleHandOut (.ref z) (.ref h5.objs.size) >>= _) _ _ _
  refine wpAny_bind ?_
  unfold Builtin.SmallTypes.ownedTupleHandOut
  have z6 : IsZip (h5.push { cls := .type "tuple", data := .seq #[x, y] }) z TI TO .ellipsis := Heap.get?_push_of_some _ z5
  refine wpAny_bind (wpAny_setField_rec z6 (by simp) fun h7 z7 e7 => ?_)
  replace z7 : IsZip h7 z TI TO (rawInt h5.objs.size) := z7
  refine wpAny_setField_rec z7 (by simp) fun h8 z8 e8 => wpAny_pure ⟨_, rfl, ?_⟩
  replace z8 : IsZip h8 z TI TO (rawInt h5.objs.size) := z8
  have up : ∀ c o, c ≠ z → h5.get? c = some o → h8.get? c = some o := fun c o c1 e => e8.extBut _ _ c1 (e7.extBut _ _ c1 (Heap.get?_push_of_some _ e))
  have t8 : IsPair h8 h5.objs.size x y := e8.extBut _ _ (Nat.ne_of_gt zl) (e7.extBut _ _ (Nat.ne_of_gt zl) (Heap.get?_push_size _ rfl))
  have s8 : h8.objs.size = h5.objs.size + 1 := by rw [e8.1, e7.1, Heap.size_push]
  rw [sz] at z8 t8 s8
  show Q (.ref h5.objs.size) _
  rw [sz]
  exact hQ x y h8 _ px py z8 (up _ _ n2 o5) (D.d1.frame _ _ _ v1 fun b hb o e => up b o (fun q => D.f1.1 (q ▸ hb)) e) (D.d2.frame _ _ _ v2 fun b hb o e => up b o (fun q => D.f2.1 (q ▸ hb)) e) t8 s8 fun c o c1 c2 c3 c4 e => up c o c1 (old c o c1 c2 c3 c4 e)
theorem zd_end {a b : Value} {Q : PySem.Fin → Shared → Prop} (D : ZD prog w A z TI TO i1 i2 fp1 fp2 n P1 P2 S1 S2)
    (hz : IsZip s.heap z TI TO .none) (hTI : IsPair s.heap TI (.ref i1) (.ref i2)) (hTO : IsPair s.heap TO a b) (t1 : S1 n s.heap)
    (hE : ∀ h' e, (∀ c o, c ≠ z → c ≠ TO → c ≠ i1 → c ≠ i2 → s.heap.get? c = some o → h'.get? c = some o) → (∃ o, h'.get? e = some o ∧ o.cls = .type "StopIteration") → E (.ref e) { s with heap := h' }) :
    wpAny (model prog w) A (Builtin.«zip.__next__» ⟨[.ref z], []⟩) Q E s := by
  obtain ⟨n1, n2, n3, n4, n5, n6, n7, n8, n9, n10⟩ := D.ne
  show wpAny _ _ (field (.ref z) 2 >>= _) _ _ _
  refine wpAny_bind (wpAny_field hz rfl (x := .bool false) rfl ?_)
  show wpAny _ _ (field (.ref z) 3 >>= _) _ _ _
  refine wpAny_bind (wpAny_field hz rfl (x := .ref TI) rfl (wpAny_bind (wpAny_seqItems hTI rfl ?_)))
  show wpAny _ _ (Builtin.SmallTypes.ownedTupleIsFree (.ref z) >>= _) _ _ _
  refine wpAny_bind ?_
  unfold Builtin.SmallTypes.ownedTupleIsFree
  refine wpAny_bind (wpAny_field hz rfl (x := .none) rfl (wpAny_pure ?_))
  simp only [if_true]
  refine wpAny_bind (wpAny_rule (wpAny_bind (wpAny_field hz rfl (x := .ref TO) rfl (wpAny_bind (wpAny_setField_rec hz (by simp) fun h1 hz1 e1 => wpAny_bind ?_)))))
  replace hz1 : IsZip h1 z TI TO .ellipsis := hz1
  simp only [List.zipIdx_cons, List.zipIdx_nil, List.forIn_cons, List.forIn_nil]
  refine wpAny_bind (wpAny_bind (wpAny_onRaise (show wpAny _ _ (Builtin.SmallTypes.nextOf (.ref i1) >>= _) _ _ _ from wpAny_bind (D.d1.done _ _ _ (D.d1.frame _ _ _ t1 (keep_of D.f1.1 e1)) fun h2 e e2 he => ?_))))
  obtain ⟨oe, hoe, hce⟩ := he
  have z2 : IsZip h2 z TI TO .ellipsis := e2 _ _ n3.symm hz1
  have hez : e ≠ z := fun x => by subst x; rw [z2] at hoe; cases hoe; simp at hce
  exact wpAny_setField_rec z2 (by simp) fun h3 _ e3 => hE h3 e (fun c o c1 _ c3 _ x => e3.extBut _ _ c1 (e2 _ _ c3 (e1.extBut _ _ c1 x))) ⟨oe, e3.extBut _ _ hez hoe, hce⟩
end
end L2
namespace L2
open PySem PySem.Spec PyProof.Rows
section
variable {prog : Program} {w : World} {A : Around} {E : Value → Shared → Prop} {s : Shared}
variable {z TI TO i1 i2 : Addr} {fp1 fp2 : List Addr} {n : Nat} {P1 P2 : Nat → Value → Prop} {S1 S2 : Nat → Heap → Prop}
theorem zdn_item {k : Nat} {a b : Value} {Q : Option Value → Shared → Prop} (D : ZD prog w A.in1 z TI TO i1 i2 fp1 fp2 n P1 P2 S1 S2) (hk : k < n)
    (hz : IsZip s.heap z TI TO .none) (hTI : IsPair s.heap TI (.ref i1) (.ref i2)) (hTO : IsPair s.heap TO a b) (t1 : S1 k s.heap) (t2 : S2 k s.heap)
    (hQ : ∀ x y h' tk, P1 k x → P2 k y → IsZip h' z TI TO (rawInt s.heap.objs.size) → IsPair h' TO x y → S1 (k + 1) h' → S2 (k + 1) h' → IsPair h' s.heap.objs.size x y → h'.objs.size = s.heap.objs.size + 1 →
      (∀ c o, c ≠ z → c ≠ TO → c ≠ i1 → c ≠ i2 → s.heap.get? c = some o → h'.get? c = some o) → Q (some (.ref s.heap.objs.size)) { s with heap := h', toks := tk })
    (w1 : ∀ b ∈ fp1, b < s.heap.objs.size) (w2 : ∀ b ∈ fp2, b < s.heap.objs.size) :
    wpAny (model prog w) A (pyNext (.ref z)) Q E s := by
  have hT : s.TypeIs (.ref z) "zip" := ⟨_, hz, rfl⟩
  unfold pyNext
  exact wpAny_bind (wpAny_attempt (wpAny_callSpecial?_slot (name := Str.ofString "__next__") hT F.slot_zip_next
    (wpAny_call_entry F.slot_zip_next hT F.entry_zip_next
      (zd_item D hk hz hTI hTO t1 t2 (fun x y h' tk a0 a00 a1 a2 a3 a4 a5 a6 a7 => wpAny_pure (hQ x y h' tk a0 a00 a1 a2 a3 a4 a5 a6 a7)) w1 w2) (F.args_zip_next_1 _))))
theorem zdn_end {a b : Value} {Q : Option Value → Shared → Prop} (D : ZD prog w A.in1 z TI TO i1 i2 fp1 fp2 n P1 P2 S1 S2)
    (hz : IsZip s.heap z TI TO .none) (hTI : IsPair s.heap TI (.ref i1) (.ref i2)) (hTO : IsPair s.heap TO a b) (t1 : S1 n s.heap)
    (hQ : ∀ h', (∀ c o, c ≠ z → c ≠ TO → c ≠ i1 → c ≠ i2 → s.heap.get? c = some o → h'.get? c = some o) → Q none { s with heap := h' }) : wpAny (model prog w) A (pyNext (.ref z)) Q E s := by
  have hT : s.TypeIs (.ref z) "zip" := ⟨_, hz, rfl⟩
  unfold pyNext
  refine wpAny_bind (wpAny_attempt (wpAny_callSpecial?_slot (name := Str.ofString "__next__") hT F.slot_zip_next
    (wpAny_call_entry F.slot_zip_next hT F.entry_zip_next (zd_end D hz hTI hTO t1 fun h' e hk he => ?_) (F.args_zip_next_1 _))))
  obtain ⟨o, ho, hc⟩ := he
  exact wpAny_bind (wpAny_isInstance (T := "StopIteration") (b := true) ⟨o, ho, hc⟩ isSubtype_stop (wpAny_pure (hQ _ hk)))
end
abbrev ZN (z TI TO i1 i2 : Addr) : Prop := TI ≠ z ∧ TO ≠ z ∧ i1 ≠ z ∧ i2 ≠ z ∧ TI ≠ TO ∧ TI ≠ i1 ∧ TI ≠ i2 ∧ TO ≠ i1 ∧ TO ≠ i2 ∧ i1 ≠ i2
section
variable {K : PySem.W.Frag} {a b : Addr} {xs ys : List V} {n : Nat} {caps : List Nat} {g : TG} {tc : TT} {te : TE} {σ : St} {H : Hp} {Qf : Addr → Hp → List V → Prop}
end
end L2
set_option Elab.async false
set_option linter.all false
set_option maxRecDepth 100000
set_option maxHeartbeats 400000
namespace Sm
open PySem L2 SmSort
structure L4 where
  s : Nat
  w : Nat
  a : Int
  z : Int
end Sm
namespace Sm
open PySem L2 SmSort
end Sm
set_option Elab.async false
set_option linter.all false
set_option maxRecDepth 100000
set_option maxHeartbeats 400000
namespace L2
open PySem PySem.Spec PyProof.Rows
end L2
namespace Sm
open PySem L2 SmSort
def letRow (x : L4) : List V := [.int (x.s : Int), .int x.a, .int (x.w : Int), .int x.z]
end Sm
set_option Elab.async false
set_option linter.all false
set_option maxRecDepth 100000
set_option maxHeartbeats 400000
namespace Sm
open PySem L2 SmSort
def LetsL (H : Hp) (ll : Addr) (ls : List (Addr × L4)) : Prop := H ll = some (.lst (ls.map fun l => V.ref l.1)) ∧ ∀ l ∈ ls, H l.1 = some (.tup (letRow l.2))
theorem LetsL.same {H H' : Hp} {ll : Addr} {ls : List (Addr × L4)} (h : LetsL H ll ls) (e : Same H H') : LetsL H' ll ls := ⟨e _ _ h.1, fun l hl => e _ _ (h.2 l hl)⟩
section
variable {C : Addr} {H0 H H' HB HC : Hp} {t : Tr} {s : Sts} {rooms : List Int} {tr tm : Addr} {ps : List (Addr × M4)} {n0 : Nat}
end
end Sm
set_option Elab.async false
set_option linter.all false
set_option maxRecDepth 100000
set_option maxHeartbeats 400000
namespace L2
open PySem PySem.Spec PyProof.Rows
section
variable {X : Cx}
theorem part_of {v : Value} {o : Option Int} (h : IsPart v o) : ∃ p : Option (Int × Tok), v = partValue p ∧ o = p.map (·.1) := by
  cases h with
  | none => exact ⟨none, rfl, rfl⟩
  | int i t => exact ⟨some (i, t), rfl, rfl⟩
theorem sl_str : SlR X (fun x lo hi H Q => ∃ z : Str, x = .str z ∧ z.length ≤ sizeLine ∧ Q (.str (Txt.slice z lo hi)) H) := by
  intro pins s σ H x v vl vu lo hi sl Q I rx hs pl pu h
  obtain ⟨z, rfl, hz, q⟩ := h
  obtain ⟨t, rfl⟩ := rx
  obtain ⟨l, rfl, rfl⟩ := part_of pl
  obtain ⟨u, rfl, rfl⟩ := part_of pu
  refine ⟨"str", _, F.slot_str_getitem.lookup, typeIs_str _ _ _, ?_⟩
  refine wpAny_getItem_str_slice (l := l) (u := u) (st := none) hs rfl ?_
  refine post_val_or_str ⟨Nat.le_trans (Txt.slice_le z _ _) hz, fun t' k => ⟨.str (Txt.slice z (l.map (·.1)) (u.map (·.1))), H, I.tok k, ⟨t', rfl⟩, q⟩⟩
end
section
variable {n : Nat} {caps : List Nat} {g : TG} {tc : TT} {te : TE} {σ : St} {H : Hp} {Qf : Addr → Hp → List V → Prop}
end
end L2
set_option Elab.async false
set_option linter.all false
set_option maxRecDepth 100000
set_option maxHeartbeats 400000
namespace L2
open PySem PySem.Spec PyProof.Rows
section
variable {X : Cx}
def FmtOk (x : V) (z : Str) : Prop := (x = .str z ∧ z.length ≤ sizeLine) ∨ ∃ i : Int, x = .int i ∧ i.natAbs.log2 < 1920 ∧ z = Str.ofString (toString i)
def tFmt (te : TE) : TE := fun σ H Q => te σ H fun x H1 => ∃ z, FmtOk x z ∧ Q (.str z) H1
theorem pe_fmt {e : Expr} {te : TE} {pos : Pos} (he : PE X e te) : PE X (.FormattedValue e (-1) none pos) (tFmt te) := by
  intro pins s σ H Q I h
  refine wpAny_FormattedValue_plain (thn (he pins s σ H _ I h) fun v s1 ⟨x, H1, I1, r1, q1⟩ => ?_)
  obtain ⟨z, hz, q⟩ := q1
  rcases hz with ⟨rfl, l⟩ | ⟨i, rfl, l, rfl⟩
  · obtain ⟨t, rfl⟩ := r1
    exact formatField_str (fun t' tk => ⟨.str z, H1, I1.tok tk, ⟨_, rfl⟩, q⟩) l
  · obtain ⟨t, rfl⟩ := r1
    exact wpAny_formatField_int l ⟨.str _, H1, I1.tok _, ⟨_, rfl⟩, q⟩
abbrev TJ := Str → St → Hp → (Str → Hp → Prop) → Prop
def PJ (X : Cx) (es : List Expr) (t : TJ) : Prop := ∀ (pins : List (Addr × Obj)) (s : Shared) (σ : St) (H : Hp) (acc : Str) (Q : Str → Hp → Prop), Inv X pins σ H s → t acc σ H Q → Joins (model X.prog X.w) X.A X.xe (evalEach es X.env) acc (fun out s1 => ∃ H1, Inv X pins σ H1 s1 ∧ Q out H1) s
def jNil : TJ := fun acc σ H Q => Q acc H
def jCons (te : TE) (ts : TJ) : TJ := fun acc σ H Q => te σ H fun x H1 => ∃ y, x = .str y ∧ (acc ++ y).length ≤ sizeLine ∧ ts (acc ++ y) σ H1 Q
theorem pj_nil : PJ X [] jNil := fun pins s σ H acc Q I h => Joins_nil ⟨H, I, h⟩
theorem pj_c {e : Expr} {es : List Expr} {te : TE} {ts : TJ} (he : PE X e te) (hs : PJ X es ts) : PJ X (e :: es) (jCons te ts) := by
  intro pins s σ H acc Q I h
  refine Joins_cons (thn (he pins s σ H _ I h) fun v s1 ⟨x, H1, I1, r1, q1⟩ => ?_)
  obtain ⟨y, rfl, l, q⟩ := q1
  obtain ⟨t, rfl⟩ := r1
  exact ⟨y, t, rfl, l, hs pins s1 σ H1 _ Q I1 q⟩
def tJ (ts : TJ) : TE := fun σ H Q => ts Str.empty σ H fun out H1 => out.length ≤ sizeLine ∧ Q (.str out) H1
theorem Joins.mono {M : Model} {A : Around} {E : Value → Shared → Prop} {env : Env} {Q Q' : Str → Shared → Prop} (h : ∀ a s, Q a s → Q' a s) : ∀ {ps : List (Sem Value)} {acc : Str} {s : Shared}, Joins M A E ps acc Q s → Joins M A E ps acc Q' s
  | [], acc, s, j => h _ _ j
  | p :: ps, acc, s, j => thn (show wpAny M A p _ E s from j) fun v s1 ⟨y, t, e, l, k⟩ => ⟨y, t, e, l, Joins.mono (env := env) h k⟩
theorem pe_fstr {e1 e2 : Expr} {es : List Expr} {ts : TJ} {pos : Pos} (h : PJ X (e1 :: e2 :: es) ts) : PE X (.JoinedStr (e1 :: e2 :: es) pos) (tJ ts) := by
  intro pins s σ H Q I hw
  refine wpAny_JoinedStr (Joins.mono (env := X.env) (fun out s1 ⟨H1, I1, l, q⟩ => ?_) (h pins s σ H _ _ I hw))
  exact ⟨l, .str out, H1, I1.tok _, ⟨_, rfl⟩, q⟩
theorem str_items : ∀ {ns : List Str} {its : List Value}, Vals (ns.map V.str) its → StrsAre its ns
  | [], _, r => by cases r; exact .nil
  | n :: ns, _, r => by
    cases r with
    | cons r1 rr =>
      obtain ⟨t, rfl⟩ := r1
      exact .cons n t (str_items rr)
theorem mt_join : MtR X "str.join" (fun x xs H Q => ∃ z : Str, ∃ p ys, x = .str z ∧ xs = [.ref p] ∧ SqL X.K H p (ys.map V.str) ∧ (ys.map fun y => y.length).sum + ys.length * z.length ≤ 16777216 ∧ Q (.str (Txt.join z ys)) H) := by
  intro pins s σ H x xs v us Q I rx rv h
  obtain ⟨z, p, ys, rfl, rfl, hp, hz, q⟩ := h
  obtain ⟨t, rfl⟩ := rx
  obtain ⟨u, rfl, ru⟩ := vals1 rv
  cases ru
  obtain ⟨its, r, pl, _⟩ := I.list hp
  exact join_list pl.isList (str_items r) hz fun t' k => ⟨.str _, H, I.tok k, ⟨_, rfl⟩, q⟩
theorem fills_list_iadd : fillsInplaceSlot (.type "list") "add" true = pure false := by
  show (do let fi ← typeLookup (.type "list") (dunderI "add"); pure (fi.isSome && !isSeqSlot fi)) = _
  rw [F.slot_list_iadd.lookup]; rfl
theorem seq_list_iadd : seqSlot? (.type "list") (dunderI "add") = pure (some (.builtin "list.__iadd__")) := by
  unfold seqSlot?
  rw [F.slot_list_iadd.lookup]; rfl
theorem wp_iadd_list {prog : Program} {w : World} {A : Around} {E : Value → Shared → Prop} {s : Shared} {a b : Value} {Q : Value → Shared → Prop} (ta : s.TypeIs a "list") (tb : s.TypeIs b "list") (h : wpAny (model prog w) A (call (.builtin "list.__iadd__") [a, b]) Q E s) : wpAny (model prog w) A (inplaceOp .Add a b) Q E s := by
  unfold inplaceOp
  refine wpAny_holding (wpAny_bind (wpAny_typeOf ta (wpAny_bind (wpAny_of_eq fills_list_iadd ?_))))
  dsimp only
  rw [if_neg Bool.false_ne_true]
  refine wpAny_bind (wpAny_binaryOp1_none ta tb noFill_list_add ?_)
  dsimp only
  refine wpAny_bind (wpAny_of_eq seq_list_iadd ?_)
  dsimp only
  exact wpAny_bind (wpAny_rule h)
theorem ip_cat : PIp X .Add (fun x y H Q => ∃ l b xs zs, x = .ref l ∧ y = .ref b ∧ H l = some (.lst xs) ∧ H b = some (.lst zs) ∧ xs.length + zs.length ≤ sizeLine ∧ Q (.ref l) (upd H l (.lst (xs ++ zs)))) := by
  intro pins s σ H x y v u Q I rx ry h
  obtain ⟨l, b, xs, zs, rfl, rfl, hH, hB, hz, q⟩ := h
  cases rx
  cases ry
  obtain ⟨z, its, n, r, hl, e⟩ := I.lstM hH
  obtain ⟨z2, its2, n2, r2, hl2, e2⟩ := I.lstM hB
  have hsz : its.toArray.size + its2.toArray.size ≤ sizeLine := by rw [List.size_toArray, List.size_toArray]; omega
  have hlong : ¬ (!its.toArray.isEmpty && Builtin.List.listTooLong (its.toArray.size + its2.toArray.size)) = true := by
    rw [notLongL hsz, Bool.and_false]
    exact Bool.false_ne_true
  refine wp_iadd_list ⟨_, e, rfl⟩ ⟨_, e2, rfl⟩ (call_meets F.slot_list_iadd ⟨_, e, rfl⟩ F.entry_list_iadd (F.args_list_iadd_2 _ _)
    (AutoSeq1.list___iadd___list_list_0 l its.toArray n b its2.toArray n2 hlong (by rw [List.size_toArray]; omega) (by omega)) ⟨e, e2, ?_⟩)
  refine ⟨.ref l, _, I.lset (its' := its ++ its2) hH e (by simp) (r.append r2) ?_, rfl, q⟩
  rw [List.length_append]
  omega
end
end L2
set_option Elab.async false
set_option linter.all false
set_option maxRecDepth 100000
set_option maxHeartbeats 4000000
namespace L2
open PySem PySem.Spec PyProof.Rows
theorem zipM_new (l1 l2 : Addr) (xs ys : Array Value) :
    Meets (Builtin.«zip.__new__» ⟨[.type "zip", .ref l1, .ref l2], []⟩) (fun _ R s => s.heap.IsList l1 xs ∧ s.heap.IsTuple l2 ys ∧
      ∀ h' : Heap, IsZip h' (s.heap.objs.size + 4) (s.heap.objs.size + 2) (s.heap.objs.size + 3) .none → IsPair h' (s.heap.objs.size + 2) (.ref s.heap.objs.size) (.ref (s.heap.objs.size + 1)) →
      IsPair h' (s.heap.objs.size + 3) .none .none → h'.IsListIter s.heap.objs.size l1 0 → h'.IsTupleIter (s.heap.objs.size + 1) l2 0 → 
      (∀ c o, s.heap.get? c = some o → h'.get? c = some o) → R (.ok (.ret (.ref (s.heap.objs.size + 4)))) { s with heap := h' }) :=
  .of_wp fun prog w A R s h => by
    obtain ⟨hp, g, d, tk, os⟩ := s; obtain ⟨hl1, hl2, h⟩ := h
    have hsub := sub_zip
    have hL1 : Heap.IsList (Shared.heap ⟨hp, g, d, tk, os⟩) l1 xs := hl1
    have hL2 : Heap.IsTuple (Shared.heap ⟨hp.push { cls := .type "list_iterator", data := .fields #[.ref l1, .int 0 0] }, g, d, tk, os⟩) l2 ys := let ⟨o, e, r⟩ := hl2; ⟨o, Heap.get?_push_of_some _ e, r⟩
    wp_walk using wpAny_pyIter_list hL1, wpAny_pyIter_tuple hL2
    refine ⟨_, rfl, ?_⟩
    have sp : ∀ (h : Heap) (o : Obj), (h.push o).objs.size = h.objs.size + 1 := fun h o => Heap.size_push ..
    have h' := h (((((hp.push { cls := .type "list_iterator", data := .fields #[.ref l1, .int 0 0] }).push { cls := .type "tuple_iterator", data := .fields #[.ref l2, .int 0 0] }).push { cls := .type "tuple", data := .seq #[.ref hp.objs.size, .ref (hp.objs.size + 1)] }).push { cls := .type "tuple", data := .seq #[.none, .none] }).push { cls := .type "zip", data := .fields #[.none, .bool false, .bool false, .ref (hp.objs.size + 2), .ref (hp.objs.size + 3)] })
      (by show Heap.get? _ (hp.objs.size + 4) = _; rw [show hp.objs.size + 4 = ((((hp.push { cls := .type "list_iterator", data := .fields #[.ref l1, .int 0 0] }).push { cls := .type "tuple_iterator", data := .fields #[.ref l2, .int 0 0] }).push { cls := .type "tuple", data := .seq #[.ref hp.objs.size, .ref (hp.objs.size + 1)] }).push { cls := .type "tuple", data := .seq #[.none, .none] }).objs.size from by simp only [sp]]; exact Heap.get?_push_size _ rfl)
      (by
        refine Heap.get?_push_of_some _ (Heap.get?_push_of_some _ ?_)
        show Heap.get? _ (hp.objs.size + 2) = _
        rw [show hp.objs.size + 2 = ((hp.push { cls := .type "list_iterator", data := .fields #[.ref l1, .int 0 0] }).push { cls := .type "tuple_iterator", data := .fields #[.ref l2, .int 0 0] }).objs.size from by simp only [sp]]; exact Heap.get?_push_size _ rfl)
      (by
        refine Heap.get?_push_of_some _ ?_
        show Heap.get? _ (hp.objs.size + 3) = _
        rw [show hp.objs.size + 3 = (((hp.push { cls := .type "list_iterator", data := .fields #[.ref l1, .int 0 0] }).push { cls := .type "tuple_iterator", data := .fields #[.ref l2, .int 0 0] }).push { cls := .type "tuple", data := .seq #[.ref hp.objs.size, .ref (hp.objs.size + 1)] }).objs.size from by simp only [sp]]; exact Heap.get?_push_size _ rfl)
      ⟨_, Heap.get?_push_of_some _ (Heap.get?_push_of_some _ (Heap.get?_push_of_some _ (Heap.get?_push_of_some _ (Heap.get?_push_size _ rfl)))), rfl, rfl⟩
      ⟨{ cls := .type "tuple_iterator", data := .fields #[.ref l2, .int 0 0] }, (by
        refine Heap.get?_push_of_some _ (Heap.get?_push_of_some _ (Heap.get?_push_of_some _ ?_))
        show Heap.get? _ (hp.objs.size + 1) = _
        rw [show hp.objs.size + 1 = (hp.push { cls := .type "list_iterator", data := .fields #[.ref l1, .int 0 0] }).objs.size from by simp only [sp]]; exact Heap.get?_push_size _ rfl), rfl, rfl⟩
      (fun c o x => Heap.get?_push_of_some _ (Heap.get?_push_of_some _ (Heap.get?_push_of_some _ (Heap.get?_push_of_some _ (Heap.get?_push_of_some _ x)))))
    simp only [sp] at h' ⊢
    exact h'
end L2
namespace L2
open PySem PySem.Spec PyProof.Rows
section
variable {prog : Program} {w : World} {A : Around} {E : Value → Shared → Prop} {s : Shared}
variable {z TI TO i1 i2 : Addr} {fp1 fp2 : List Addr} {n : Nat} {P1 P2 : Nat → Value → Prop} {S1 S2 : Nat → Heap → Prop}
theorem ZD.mix {l1 l2 : Addr} (hh : A.handled = none) (ne : TI ≠ z ∧ TO ≠ z ∧ i1 ≠ z ∧ i2 ≠ z ∧ TI ≠ TO ∧ TI ≠ i1 ∧ TI ≠ i2 ∧ TO ≠ i1 ∧ TO ≠ i2 ∧ i1 ≠ i2) (a1 : ∀ x ∈ [z, TO, i1, i2], l1 ≠ x) (a2 : ∀ x ∈ [z, TO, i1, i2], l2 ≠ x) {xs ys : Array Value} (hs : ys.size = xs.size) :
    ZD prog w A z TI TO i1 i2 [i1, l1] [i2, l2] xs.size (fun i v => xs[i]? = some v) (fun i v => ys[i]? = some v) (fun i h => h.IsListIter i1 l1 i ∧ h.IsList l1 xs) (fun i h => h.IsTupleIter i2 l2 i ∧ h.IsTuple l2 ys) where
  d1 := Draws.list hh i1 l1 (a1 _ (by simp)) xs
  d2 := hs ▸ drawsT hh i2 l2 (a2 _ (by simp)) ys
  ne := ne
  f1 := by
    obtain ⟨n1, n2, n3, n4, n5, n6, n7, n8, n9, n10⟩ := ne
    have b1 := a1 z (by simp); have b2 := a1 TO (by simp); have b3 := a1 i2 (by simp)
    simp only [List.mem_cons, List.not_mem_nil, or_false, not_or]
    exact ⟨⟨n3.symm, b1.symm⟩, ⟨n8, b2.symm⟩, n10.symm, b3.symm⟩
  f2 := by
    obtain ⟨n1, n2, n3, n4, n5, n6, n7, n8, n9, n10⟩ := ne
    have b1 := a2 z (by simp); have b2 := a2 TO (by simp); have b3 := a2 i1 (by simp)
    simp only [List.mem_cons, List.not_mem_nil, or_false, not_or]
    exact ⟨⟨n4.symm, b1.symm⟩, ⟨n9, b2.symm⟩, n10, b3.symm⟩
end
def IzM (K : PySem.W.Frag) (a b : Addr) : It :=
  ⟨fun i H => ∃ xs ys x y, SqL K H a xs ∧ SqT K H b ys ∧ xs.length = ys.length ∧ xs[i]? = some x ∧ ys[i]? = some y, fun i H v H' => ∃ p x y, H p = none ∧ v = .ref p ∧ H' = upd H p (.tup [x, y]) ∧ ∀ xs ys, SqL K H a xs → SqT K H b ys → xs[i]? = some x ∧ ys[i]? = some y,
    fun i H => ∃ xs ys, SqL K H a xs ∧ SqT K H b ys ∧ xs.length = ys.length ∧ xs.length = i⟩
theorem turn_zipM {P : Program} {w : World} {K : PySem.W.Frag} {es : List Expr} {k : Nat} {pos : Pos} (l1 l2 z TI TO i1 i2 : Addr) (ap : ZN z TI TO i1 i2) (a1 : ∀ x ∈ [z, TO, i1, i2], l1 ≠ x) (a2 : ∀ x ∈ [z, TO, i1, i2], l2 ≠ x) :
    Turn P w K (.Tuple es k pos) (IzM K l1 l2) [z, TI, TO, i1, i2] z (fun i h => IsZip h z TI TO .none ∧ IsPair h TI (.ref i1) (.ref i2) ∧ (∃ a b, IsPair h TO a b) ∧ h.IsListIter i1 l1 i ∧ h.IsTupleIter i2 l2 i) where
  mem := by simp
  obj := fun i h st b hb => by
    obtain ⟨hz, hTI, ⟨a, c, hTO⟩, ⟨o1, g1, c1, d1⟩, ⟨o2, g2, c2, d2⟩⟩ := st
    simp only [List.mem_cons, List.not_mem_nil, or_false] at hb
    rcases hb with e | e | e | e | e <;> subst e
    · exact ⟨_, hz, fun v q => nomatch q⟩
    · exact ⟨_, hTI, fun v q => nomatch q⟩
    · exact ⟨_, hTO, fun v q => nomatch q⟩
    · exact ⟨o1, g1, fun v q => by rw [d1] at q; cases q⟩
    · exact ⟨o2, g2, fun v q => by rw [d2] at q; cases q⟩
  keep := fun i h h' st q => by
    obtain ⟨hz, hTI, ⟨a, c, hTO⟩, ⟨o1, g1, r1⟩, ⟨o2, g2, r2⟩⟩ := st
    exact ⟨q z (by simp) _ hz, q TI (by simp) _ hTI, ⟨a, c, q TO (by simp) _ hTO⟩, ⟨o1, q i1 (by simp) o1 g1, r1⟩, ⟨o2, q i2 (by simp) o2 g2, r2⟩⟩
  item := by
    intro X hP hw hK hc i pins s σ H E I hf st hg
    subst hP hw hK
    obtain ⟨xs, ys, x, y, hq1, hq2, el, hx, hy⟩ := hg
    obtain ⟨its1, rv1, p1, hz1⟩ := I.list hq1
    obtain ⟨its2, rv2, p2, hz2⟩ := I.tuple hq2
    obtain ⟨u, hu, ru⟩ := rv1.get hx
    obtain ⟨v, hv, rv⟩ := rv2.get hy
    obtain ⟨hZ, hTI, ⟨a0, c0, hTO⟩, hi1, hi2⟩ := st
    have t1 : s.heap.IsList l1 its1.toArray := p1.isList
    have t2 : s.heap.IsTuple l2 its2.toArray := p2
    have fp := fun b hb => hf b hb
    have lt : ∀ b, b ∈ [z, TI, TO, i1, i2] → b < s.heap.objs.size := fun b hb => by
      simp only [List.mem_cons, List.not_mem_nil, or_false] at hb
      rcases hb with e | e | e | e | e <;> subst e
      · exact Heap.lt_size hZ
      · exact Heap.lt_size hTI
      · exact Heap.lt_size hTO
      · exact let ⟨_, z, _⟩ := hi1; Heap.lt_size z
      · exact let ⟨_, z, _⟩ := hi2; Heap.lt_size z
    have ll1 : l1 < s.heap.objs.size := let ⟨_, z, _⟩ := t1; Heap.lt_size z
    have ll2 : l2 < s.heap.objs.size := let ⟨_, z, _⟩ := t2; Heap.lt_size z
    have e1 := rv1.length
    have e2 := rv2.length
    have ix := (List.getElem?_eq_some_iff.mp hu).1
    refine zdn_item (ZD.mix (A := X.A.in1) (I.ok.hd hc) ap a1 a2 (xs := its1.toArray) (ys := its2.toArray) (by simp; omega)) (by simpa using ix) hZ hTI hTO ⟨hi1, t1⟩ ⟨hi2, t2⟩ (fun u' v' h1 tk hu' hv' hZ1 hTO1 hs1 hs2 hT hsz hk => ?_) (fun b hb => ?_) (fun b hb => ?_)
    rotate_left
    · simp only [List.mem_cons, List.not_mem_nil, or_false] at hb
      rcases hb with e | e
      · rw [e]; exact lt i1 (by simp)
      · rw [e]; exact ll1
    · simp only [List.mem_cons, List.not_mem_nil, or_false] at hb
      rcases hb with e | e
      · rw [e]; exact lt i2 (by simp)
      · rw [e]; exact ll2
    obtain rfl : u = u' := by
      have q : its1.toArray[i]? = some u := by simpa using hu
      exact Option.some.inj (q.symm.trans hu')
    obtain rfl : v = v' := by
      have q : its2.toArray[i]? = some v := by simpa using hv
      exact Option.some.inj (q.symm.trans hv')
    refine ⟨_, rfl, ?_⟩
    refine wpAny_letOwnedTupleGo_zip hZ1 fun h2 hZ2 hs2' => ?_
    replace hs2' : Heap.SameBut z h1 h2 := hs2'
    obtain ⟨n1, n2, n3, n4, n5, n6, n7, n8, n9, n10⟩ := ap
    have old2 : ∀ b o, b ∉ [z, TO, i1, i2] → s.heap.get? b = some o → h2.get? b = some o := fun b o hb q => by
      simp only [List.mem_cons, List.not_mem_nil, or_false, not_or] at hb
      exact hs2'.extBut b o hb.1 (hk b o hb.1 hb.2.1 hb.2.2.1 hb.2.2.2 q)
    have hT2 : h2.get? s.heap.objs.size = some { cls := .type "tuple", data := .seq #[u, v] } := hs2'.extBut _ _ (Nat.ne_of_gt (lt z (by simp))) hT
    have nT : H s.heap.objs.size = none := I.hok.fresh (Nat.le_refl _)
    have sub : ∀ b, b ∈ [z, TO, i1, i2] → b ∈ [z, TI, TO, i1, i2] := fun b hb => by
      simp only [List.mem_cons, List.not_mem_nil, or_false] at hb ⊢
      rcases hb with e | e | e | e <;> simp [e]
    refine ⟨.ref s.heap.objs.size, upd H s.heap.objs.size (.tup [x, y]), ?_, rfl, ⟨_, x, y, nT, rfl, rfl, fun ys' zs' h1 h2 => by rw [I.list_inj h1 hq1, I.tuple_inj h2 hq2]; exact ⟨hx, hy⟩⟩, ⟨hZ2, ?_, ⟨u, v, ?_⟩, ?_, ?_⟩, fun b hb => ?_⟩
    · refine Inv.step (s := s) (h' := h2) (g' := s.gens) (d' := s.drawn) (t' := tk) (ch := [z, TO, i1, i2]) I (fun b hb => ?_) (fun b o _ _ hb q _ => old2 b o hb q) (fun b o _ _ hb q _ => ⟨o.slots, old2 b o hb q⟩)
        (fun b o _ q n => by rw [upd_ne (Nat.ne_of_lt (Heap.lt_size q))]; exact n) (fun b o hb q => ⟨o, old2 b o hb q⟩)
        (fun b ys q => by rw [upd_ne (ne_of_none q nT)]; exact q) (fun b o v q => by rw [upd_ne (ne_of_none q nT)]; exact q) (fun b ps q => ⟨#[], by rw [upd_ne (ne_of_none q nT), q]; simp⟩)
        (fun m hm => by
          obtain ⟨o, es', ep, q, r⟩ := hm
          exact ⟨o, es', ep, old2 _ o (fun hb => (fp _ (sub _ hb)).2.1 rfl) q, r⟩) (fun b v' q => ?_) I.bare
      · obtain ⟨e0, e1, e2, e3, e4, e5⟩ := fp b (sub b hb)
        exact ⟨e3, e1, e4, e5⟩
      · by_cases hb : b = s.heap.objs.size
        · subst hb
          rw [upd_same] at q
          cases q
          exact ⟨by show 2 ≤ sizeLine; rw [sizeLine_eq]; decide, [u, v], .cons ru (.cons rv .nil), ⟨_, hT2, rfl, _, rfl⟩⟩
        · rw [upd_ne hb] at q
          refine (I.hok b v' q).stay (fun c ob hc qc => old2 c ob (fun hb => ?_) qc) (fun c qc => by rw [upd_ne (ne_of_none qc nT)]; exact qc) fun c ys qc => by rw [upd_ne (ne_of_none qc nT)]; exact qc
          have e0 := (fp c (sub c hb)).1
          rcases hc with z | z
          · subst z; exact ne_of_none q e0 rfl
          · exact ne_of_none z e0 rfl
    · exact old2 _ _ (by simp only [List.mem_cons, List.not_mem_nil, or_false, not_or]; exact ⟨n1, n5, n6, n7⟩) hTI
    · exact hs2'.extBut _ _ n2 hTO1
    · obtain ⟨o, q, r⟩ := hs1.1
      exact ⟨o, hs2'.extBut i1 o n3 q, r⟩
    · obtain ⟨o, q, r⟩ := hs2.1
      exact ⟨o, hs2'.extBut i2 o n4 q, r⟩
    · rw [upd_ne (Nat.ne_of_lt (lt b hb))]; exact (fp b hb).1
  done := by
    intro X hP hw hK hc i pins s σ H E I hf st hg
    subst hP hw hK
    obtain ⟨xs, ys, hq1, hq2, el, hx⟩ := hg
    obtain ⟨its1, rv1, p1, hz1⟩ := I.list hq1
    obtain ⟨its2, rv2, p2, hz2⟩ := I.tuple hq2
    obtain ⟨hZ, hTI, ⟨a0, c0, hTO⟩, hi1, hi2⟩ := st
    have t1 : s.heap.IsList l1 its1.toArray := p1.isList
    have l1' := rv1.length
    have l2' := rv2.length
    have en : i = its1.toArray.size := by simp; omega
    subst en
    have sub : ∀ b, b ∈ [z, TO, i1, i2] → b ∈ [z, TI, TO, i1, i2] := fun b hb => by
      simp only [List.mem_cons, List.not_mem_nil, or_false] at hb ⊢
      rcases hb with e | e | e | e <;> simp [e]
    refine zdn_end (ZD.mix (A := X.A.in1) (I.ok.hd hc) ap a1 a2 (xs := its1.toArray) (ys := its2.toArray) (by simp; omega)) hZ hTI hTO ⟨hi1, t1⟩ fun h' hk => ⟨rfl, ?_⟩
    have old2 : ∀ b o, b ∉ [z, TO, i1, i2] → s.heap.get? b = some o → h'.get? b = some o := fun b o hb q => by
      simp only [List.mem_cons, List.not_mem_nil, or_false, not_or] at hb
      exact hk b o hb.1 hb.2.1 hb.2.2.1 hb.2.2.2 q
    refine Inv.step (s := s) (h' := h') (g' := s.gens) (d' := s.drawn) (t' := s.toks) (ch := [z, TO, i1, i2]) I (fun b hb => ?_) (fun b o _ _ hb q _ => old2 b o hb q) (fun b o _ _ hb q _ => ⟨o.slots, old2 b o hb q⟩)
        (fun b o _ q n => n) (fun b o hb q => ⟨o, old2 b o hb q⟩)
        (fun b ys q => q) (fun b o v q => q) (fun b ps q => ⟨#[], by rw [q]; simp⟩)
        (fun m hm => by
          obtain ⟨o, es', ep, q, r⟩ := hm
          exact ⟨o, es', ep, old2 _ o (fun hb => (hf _ (sub _ hb)).2.1 rfl) q, r⟩) (fun b v' q => ?_) I.bare
    · obtain ⟨e0, e1, e2, e3, e4, e5⟩ := hf b (sub b hb)
      exact ⟨e3, e1, e4, e5⟩
    · refine (I.hok b v' q).stay (fun c ob hc qc => old2 c ob (fun hb => ?_) qc) (fun c qc => qc) fun c ys qc => qc
      have e0 := (hf c (sub c hb)).1
      rcases hc with z | z
      · subst z; exact ne_of_none q e0 rfl
      · exact ne_of_none z e0 rfl
  self := fun _ _ _ _ _ st h => wpAny_pyIter_zip st.1 h
def iZipM (K : PySem.W.Frag) (ta : TA) : TI := fun σ H R => ta σ H fun vs H1 => ∃ a b, vs = [.ref a, .ref b] ∧ (∃ xs, SqL K H1 a xs) ∧ (∃ ys, SqT K H1 b ys) ∧ R (IzM K a b) H1
theorem pi_zipM {X : Cx} {a b : Expr} {ta : TA} {p pos pos2 : Pos} {es : List Expr} {k : Nat} {K : PySem.W.Frag} (hK : X.K = K) (hg : Gl X "zip") (hm : X.mg "zip" = none) (ha : PA X [a, b] ta)
    (hs : starEach [a, b] X.env = (false, eval a X.env) :: starEach [b] X.env := by rfl) (hs2 : starEach [b] X.env = [(false, eval b X.env)] := by rfl) :
    PI X (.Tuple es k pos2) (.Call (.Name "zip" p) [a, b] [] pos) (iZipM K ta) := by
  subst hK
  intro pins s σ H R I h
  refine Call_ (ld_blt I hg hm boot_zip (PyProof.Rows.callWith_type1 (thn (ha pos pins s σ H _ I h) fun us s1 ⟨vs, H1, I1, r1, q1⟩ => ?_) (by rw [hs, hs2]) (by rw [hs2]; rfl)))
  obtain ⟨l1, l2, e, ⟨xs, hq1⟩, ⟨ys, hq2⟩, q⟩ := q1
  subst e
  cases r1 with
  | cons r rr =>
    cases rr with
    | cons r' rr =>
      cases rr
      cases r
      cases r'
      obtain ⟨its1, rv1, p1, hz1⟩ := I1.list hq1
      obtain ⟨its2, rv2, p2, hz2⟩ := I1.tuple hq2
      have t1 : s1.heap.IsList l1 its1.toArray := p1.isList
      have t2 : s1.heap.IsTuple l2 its2.toArray := p2
      have lt1 : l1 < s1.heap.objs.size := let ⟨_, z, _⟩ := t1; Heap.lt_size z
      have lt2 : l2 < s1.heap.objs.size := let ⟨_, z, _⟩ := t2; Heap.lt_size z
      refine callType_new F.called_zip (by decide) (F.typeCall_zip_2 _ _) (F.newCall_zip_2 _ _) (fun obj => F.args_object_init_3 obj _ _) F.entry_zip_new (zipM_new l1 l2 its1.toArray its2.toArray) ⟨t1, t2, fun h' hZ hTI hTO hi1 hi2 hk => ⟨⟨_, hZ, rfl⟩, ?_⟩⟩
      refine wpAny_pyIter_zip hZ ?_
      have I2 : Inv X pins σ H1 { s1 with heap := h' } := I1.kept (t' := s1.toks) hk
      refine ⟨s1.heap.objs.size + 4, [s1.heap.objs.size + 4, s1.heap.objs.size + 2, s1.heap.objs.size + 3, s1.heap.objs.size, s1.heap.objs.size + 1], _, _, H1, rfl, I2, turn_zipM l1 l2 _ _ _ _ _ ?_ ?_ ?_, ⟨hZ, hTI, ⟨_, _, hTO⟩, hi1, hi2⟩, fun b hb => ?_, q⟩
      · have z := zipApart_new lt1 lt2
        exact ⟨z.TIz, z.TOz, z.i1z, z.i2z, z.TITO, z.TIi1, z.TIi2, z.TOi1, z.TOi2, z.i12⟩
      · intro x hx
        have z := zipApart_new lt1 lt2
        simp only [List.mem_cons, List.not_mem_nil, or_false] at hx
        rcases hx with e | e | e | e <;> subst e
        · exact z.l1z
        · exact z.l1TO
        · exact z.l1i1
        · exact z.l1i2
      · intro x hx
        have z := zipApart_new lt1 lt2
        simp only [List.mem_cons, List.not_mem_nil, or_false] at hx
        rcases hx with e | e | e | e <;> subst e
        · exact z.l2z
        · exact z.l2TO
        · exact z.l2i1
        · exact z.l2i2
      · have hb' : s1.heap.objs.size ≤ b := by
          simp only [List.mem_cons, List.not_mem_nil, or_false] at hb
          rcases hb with e | e | e | e | e <;> rw [e] <;> first | exact Nat.le_refl _ | exact Nat.le_add_right _ _
        exact I1.fpOk hb' (I1.hok.fresh hb')
section
variable {K : PySem.W.Frag} {a b : Addr} {xs ys : List V} {n : Nat} {caps : List Nat} {g : TG} {tc : TT} {te : TE} {σ : St} {H : Hp} {Qf : Addr → Hp → List V → Prop}
theorem comp_zipM (el : xs.length = ys.length) (Pv : Nat → St → List V → Hp → Prop) (h0 : Pv 0 (tau0 n caps σ) [] H) (hn : xs.length ≤ 1000) (hl : ∀ i τ acc H, Pv i τ acc H → acc.length ≤ i ∧ SqL K H a xs ∧ SqT K H b ys)
    (hs : ∀ i x y q τ acc H (C : St → List V → Hp → Prop), xs[i]? = some x → ys[i]? = some y → H q = none → Pv i τ acc H → (∀ τ acc H, Pv (i + 1) τ acc H → C τ acc H) → g (.ref q) τ (upd H q (.tup [x, y])) fun τ2 H2 => tc τ2 H2 fun b H3 => if b = true then te τ2 H3 fun y H4 => C τ2 (acc ++ [y]) H4 else C τ2 acc H3)
    (hd : ∀ τ acc H, Pv xs.length τ acc H → ∀ p, H p = none → Qf p H acc) :
    ∃ W : Nat → Nat → St → List V → Hp → Prop, (∃ m, W 0 m (tau0 n caps σ) [] H) ∧ ∀ i m τ acc H, W i m τ acc H →
      ((IzM K a b).stop i H ∧ acc.length ≤ sizeLine ∧ ∀ p, H p = none → Qf p H acc) ∨
      ((IzM K a b).go i H ∧ acc.length < sizeLine ∧ ∀ x H', (IzM K a b).yld i H x H' → g x τ H' fun τ2 H2 => tc τ2 H2 fun b H3 => if b = true then te τ2 H3 fun y H4 => ∃ m', m' < m ∧ W (i + 1) m' τ2 (acc ++ [y]) H4 else ∃ m', m' < m ∧ W (i + 1) m' τ2 acc H3) :=
  comp_of (J := IzM K a b) Pv xs.length h0 hn (fun i τ acc H p => (hl i τ acc H p).1) (fun i τ acc H hi p => ⟨xs, ys, xs[i], ys[i]'(by omega), (hl i τ acc H p).2.1, (hl i τ acc H p).2.2, el, by simp [hi], by simp [← el, hi]⟩) (fun τ acc H p => ⟨xs, ys, (hl _ τ acc H p).2.1, (hl _ τ acc H p).2.2, el, rfl⟩)
    (fun i τ acc H C hi p c x H' y => by obtain ⟨q, x', y', hq, e1, e2, y⟩ := y; subst e1; subst e2; exact hs i x' y' q τ acc _ C (y xs ys (hl i τ acc _ p).2.1 (hl i τ acc _ p).2.2).1 (y xs ys (hl i τ acc _ p).2.1 (hl i τ acc _ p).2.2).2 hq p c) hd
end
end L2
set_option Elab.async false
set_option linter.all false
set_option maxRecDepth 100000
set_option maxHeartbeats 400000
namespace Sm
open PySem L2 SmSort
theorem small_log {i : Int} (h1 : -(10 ^ 12) ≤ i) (h2 : i ≤ 10 ^ 12) : i.natAbs.log2 < 1920 := by
  by_cases h : i.natAbs = 0
  · rw [h]; decide
  · refine Nat.lt_of_lt_of_le ((Nat.log2_lt (k := 60) h).mpr ?_) (by decide)
    have : (2 : Nat) ^ 60 = 1152921504606846976 := by decide
    omega
def tx (i : Int) : Str := Str.ofString (toString i)
theorem tx_len {i : Int} (h1 : -(10 ^ 12) ≤ i) (h2 : i ≤ 10 ^ 12) : (tx i).length ≤ 1921 := PyProof.Rows.int_text_len_1921 (small_log h1 h2)
theorem fmt_int {i : Int} (h1 : -(10 ^ 12) ≤ i) (h2 : i ≤ 10 ^ 12) : FmtOk (.int i) (tx i) := .inr ⟨i, rfl, small_log h1 h2, rfl⟩
def rowW (p : Str × Int) : Str := ((Str.ofString "walker " ++ p.1) ++ Str.ofString " ") ++ tx p.2
def nm (ns : List Str) (i : Int) : Str := (ns[i.toNat]?).getD Str.empty
def rowM (ns : List Str) (M : M4) : Str := (((((((Str.ofString "meet " ++ nm ns M.lo) ++ Str.ofString " ") ++ nm ns M.hi) ++ Str.ofString " ") ++ tx M.t) ++ Str.ofString " ") ++ tx M.m)
def rowL (ns : List Str) (L : L4) : Str := (((((((Str.ofString "letter " ++ nm ns (L.s : Int)) ++ Str.ofString " ") ++ tx L.a) ++ Str.ofString " ") ++ nm ns (L.w : Int)) ++ Str.ofString " ") ++ tx L.z)
def allRows (ns : List Str) (rooms : List Int) (ms : List M4) (ls : List L4) : List Str := ((ns.zip rooms).map rowW ++ ms.map (rowM ns)) ++ ls.map (rowL ns)
theorem app_cps (a b : Str) : (a ++ b).cps = a.cps ++ b.cps := rfl
theorem str_ext {a b : Str} (h : a.cps = b.cps) : a = b := by cases a; cases b; cases h; rfl
theorem emp_app (a : Str) : Str.empty ++ a = a := str_ext (by rw [app_cps]; show #[] ++ a.cps = _; rw [Array.empty_append])
theorem app_len (a b : Str) : (a ++ b).length = a.length + b.length := strLen_append a b
theorem meet_sp : Str.ofString "meet" ++ Str.ofString " " = Str.ofString "meet " := by decide +kernel
theorem letter_sp : Str.ofString "letter" ++ Str.ofString " " = Str.ofString "letter " := by decide +kernel
theorem join5 (s a b c d e : Str) : Txt.join s [a, b, c, d, e] = (((((((a ++ s) ++ b) ++ s) ++ c) ++ s) ++ d) ++ s) ++ e := str_ext (by
  rw [app_cps, app_cps, app_cps, app_cps, app_cps, app_cps, app_cps, app_cps]; rfl)
def NamesL (H : Hp) (l : Addr) (ns : List Str) : Prop := H l = some (.lst (ns.map V.str))
def LRow (L : L4) (n : Nat) : Prop := L.s < n ∧ L.w < n ∧ -(10 ^ 12) ≤ L.a ∧ L.a ≤ 10 ^ 12 ∧ -(10 ^ 12) ≤ L.z ∧ L.z ≤ 10 ^ 12
def spShow : Sp := fun vs H Q _ => ∃ nl b ll ns ls rooms tr tm ps, vs = [.ref nl, .ref b, .ref ll] ∧ NamesL H nl ns ∧ BookAt H b rooms tr tm ps ∧ ns.length = rooms.length ∧ rooms.length ≤ 12 ∧ (∀ s ∈ ns, s.length ≤ 100) ∧ (∀ r ∈ rooms, (0 : Int) ≤ r ∧ r ≤ 99) ∧ Good rooms.length (ps.map (·.2)) ∧ LetsL H ll ls ∧ ls.length ≤ 41 ∧ (∀ l ∈ ls, LRow l.2 rooms.length) ∧
  ∀ p H', Same H H' → H p = none → H' p = some (.lst ((allRows ns rooms (ps.map (·.2)) (ls.map (·.2))).map V.str)) → Q (.ref p) H'
def spNames : Sp := fun vs H Q _ => ∃ p, ∃ n : Nat, vs = [.ref p, .int (n : Int)] ∧ 1 ≤ n ∧ n ≤ 12 ∧ Purse H p ∧ ∀ l ns H', Go p H H' → H l = none → NamesL H' l ns → ns.length = n → (∀ s ∈ ns, s.length ≤ 100) → Q (.ref l) H'
end Sm
namespace Sm
open PySem L2 SmSort
theorem nm_at {ns : List Str} {i : Int} (h0 : 0 ≤ i) (h1 : i < ns.length) : atI (ns.map V.str) i = some (V.str (nm ns i)) ∧ nm ns i ∈ ns := by
  obtain ⟨k, rfl⟩ := Int.eq_ofNat_of_zero_le h0
  have hk : k < ns.length := by omega
  unfold nm
  rw [Int.toNat_natCast, List.getElem?_eq_getElem hk]
  exact ⟨atI_nat (by rw [List.getElem?_map, List.getElem?_eq_getElem hk]; rfl), List.getElem_mem hk⟩
theorem join_len (s : Str) : ∀ ys : List Str, (Txt.join s ys).length ≤ (ys.map fun y => y.length).sum + ys.length * s.length
  | [] => Nat.zero_le _
  | y :: ys => by
    have key : ∀ (zs : List Str) (acc : Array Nat), (zs.foldl (fun acc p => acc ++ s.cps ++ p.cps) acc).size = acc.size + ((zs.map fun y => y.length).sum + zs.length * s.length) := by
      intro zs
      induction zs with
      | nil => intro acc; simp
      | cons z zs ih =>
        intro acc
        rw [List.foldl_cons, ih, List.map_cons, List.sum_cons, List.length_cons, Array.size_append, Array.size_append, Nat.succ_mul]
        show acc.size + s.length + z.length + _ = _
        omega
    show (ys.foldl (fun acc p => acc ++ s.cps ++ p.cps) y.cps).size ≤ _
    rw [key ys, List.map_cons, List.sum_cons, List.length_cons, Nat.succ_mul]
    show y.length + _ ≤ _
    omega
theorem sum_ones : ∀ {ss : List Str}, (∀ s ∈ ss, s.length = 1) → (ss.map fun y => y.length).sum = ss.length
  | [], _ => rfl
  | s :: ss, h => by
    rw [List.map_cons, List.sum_cons, sum_ones fun x hx => h x (List.mem_cons_of_mem _ hx), h s List.mem_cons_self, List.length_cons]; omega
def A26 : Str := Str.ofString "etaoinshrdlucmfwypvbgkjqxz"
theorem a26_len : A26.length = 26 := by decide +kernel
theorem at26 {x : Int} (h0 : 0 ≤ x) (h1 : x < 26) : ∃ c, atI A26.cps.toList x = some c := by
  obtain ⟨k, rfl⟩ := Int.eq_ofNat_of_zero_le h0
  have : A26.cps.toList.length = 26 := by rw [Array.length_toList]; exact a26_len
  exact ⟨_, atI_nat (List.getElem?_eq_getElem (by omega))⟩
def sixW : List Str := [Str.ofString "walker", Str.ofString "meet", Str.ofString "letter", Str.ofString "rows", Str.ofString "comes", Str.ofString "a"]
theorem words_len : ∀ w ∈ sixW, w.length ≤ 6 := by decide +kernel
theorem Go.but {p a : Addr} {H H1 H2 : Hp} (g : Go p H H1) (fa : H a = none) (na : a ≠ p) (b : But a H1 H2) : Go p H H2 :=
  ⟨fun c u n e => b c u (ne_of_none e fa) (g.1 c u n e), by obtain ⟨x, y, z, e⟩ := g.2; exact ⟨x, y, z, b _ _ na.symm e⟩⟩
theorem words_at {d : Int} (h0 : 0 ≤ d) (h1 : d < 6) : ∃ w, atI (sixW.map V.str) d = some (V.str w) ∧ w.length ≤ 6 := by
  obtain ⟨k, rfl⟩ := Int.eq_ofNat_of_zero_le h0
  have hk : k < sixW.length := by show k < 6; omega
  exact ⟨sixW[k], atI_nat (by rw [List.getElem?_map, List.getElem?_eq_getElem hk]; rfl), words_len _ (List.getElem_mem hk)⟩
theorem flat_strs (ss : List Str) : (ss.map V.str).all flatV = true := List.all_eq_true.mpr fun x hx => by obtain ⟨s, _, rfl⟩ := List.mem_map.mp hx; rfl
theorem eqV_self (s : Str) : eqV (.str s) (.str s) = true := by show (s == s) = true; simp
theorem ne_strsL {K : PySem.W.Frag} {H : Hp} {l d : Addr} {ns : List Str} {Q : VK} {neg : Bool} (hl : H l = some (.lst (ns.map V.str))) (hd : H d = some (.lst (ns.map V.str))) (q : Q (.bl (if neg = true then !true else true)) H) : rEqv K neg (.ref l) (.ref d) H Q := by
  refine ⟨0, l, d, _, _, fun _ => true, true, by decide, rfl, rfl, .inl ⟨SqL.of hl, SqL.of hd⟩, by simp, fun i x y hx hy => ?_, q⟩
  rw [hx] at hy; cases hy
  obtain ⟨r, hr, rfl⟩ := map_get hx
  exact .inr ⟨rfl, rfl, (eqV_self r).symm⟩
theorem ne_twoL {K : PySem.W.Frag} {H : Hp} {l d h0 h1 n0 n1 : Addr} {ns : List Str} {xs : List V} {Q : VK} {neg : Bool} (hl : H l = some (.lst [.ref h0, .ref h1])) (hd : H d = some (.lst [.ref n0, .ref n1])) (k0 : H h0 = some (.lst (ns.map V.str))) (k1 : H n0 = some (.lst (ns.map V.str))) (k2 : H h1 = some (.lst xs)) (k3 : H n1 = some (.lst xs)) (hr : ∀ x ∈ xs, ∃ a, x = V.ref a) (q : Q (.bl (if neg = true then !true else true)) H) : rEqv K neg (.ref l) (.ref d) H Q := by
  refine ⟨1, l, d, _, _, fun _ => true, true, by decide, rfl, rfl, .inl ⟨SqL.of hl, SqL.of hd⟩, by simp, fun i x y hx hy => ?_, q⟩
  match i, hx, hy with
  | 0, hx, hy =>
    cases hx; cases hy
    refine .inr (.inr ⟨h0, n0, _, _, fun _ => true, rfl, rfl, .inl ⟨SqL.of k0, SqL.of k1⟩, fun _ => rfl, by simp, fun i x y hx hy => ?_⟩)
    rw [hx] at hy; cases hy
    obtain ⟨r, hr, rfl⟩ := map_get hx
    exact .inr ⟨rfl, rfl, (eqV_self r).symm⟩
  | 1, hx, hy =>
    cases hx; cases hy
    refine .inr (.inr ⟨h1, n1, _, _, fun _ => true, rfl, rfl, .inl ⟨SqL.of k2, SqL.of k3⟩, fun _ => rfl, by simp, fun i x y hx hy => ?_⟩)
    rw [hx] at hy; cases hy
    obtain ⟨a, rfl⟩ := hr x (List.mem_of_getElem? hx)
    exact .inl ⟨rfl, ⟨_, rfl⟩, rfl⟩
  | i + 2, hx, hy => cases hx
end Sm
namespace Sm
open PySem L2
theorem line9 : 1002 ≤ sizeLine := by rw [sizeLine_eq]; decide
end Sm

set_option Elab.async false
set_option linter.all false
set_option maxRecDepth 100000
set_option maxHeartbeats 4000000
namespace Sm
open PySem L2
def top (i : Nat) : Stmt := PySem.Challenge.pw_satchelmeet_k86_rows_shown.main.body.getD i (.Pass ⟨0, 0, 0, 0⟩)
abbrev s__law_purse : Stmt := top 3
abbrev s__law_take : Stmt := top 4
abbrev s__law_rooms : Stmt := top 5
abbrev s__law_step : Stmt := top 6
abbrev s__law_meetings : Stmt := top 7
abbrev s__law_book : Stmt := top 8
abbrev s__law_far : Stmt := top 9
abbrev s__law_time : Stmt := top 10
abbrev s__law_letter : Stmt := top 11
abbrev s_show_all : Stmt := top 1
abbrev s__law_names : Stmt := top 12
abbrev s__law_rows : Stmt := top 13
abbrev s_law : Stmt := top 14
structure Ad where
  a__law_purse : Addr
  d__law_purse : FuncData
  a__law_take : Addr
  d__law_take : FuncData
  a__law_rooms : Addr
  d__law_rooms : FuncData
  a__law_step : Addr
  d__law_step : FuncData
  a__law_meetings : Addr
  d__law_meetings : FuncData
  a__law_book : Addr
  d__law_book : FuncData
  a__law_far : Addr
  d__law_far : FuncData
  a__law_time : Addr
  d__law_time : FuncData
  a__law_letter : Addr
  d__law_letter : FuncData
  a_show_all : Addr
  d_show_all : FuncData
  a__law_names : Addr
  d__law_names : FuncData
  a__law_rows : Addr
  d__law_rows : FuncData
  a_law : Addr
  d_law : FuncData
structure Tx (K : PySem.W.Frag) (mg : Str → Option Value) (a : Ad) : Prop where
  F__law_purse : Fun K "_law_purse" "_law_purse" s__law_purse a.a__law_purse a.d__law_purse
  i__law_purse : Binds K a.d__law_purse ["_law_script", "_law_k"] []
  m__law_purse : mg "_law_purse" = some (.ref a.a__law_purse)
  k__law_purse : PySem.W.keepIn K (.ref a.a__law_purse) = true
  F__law_take : Fun K "_law_take" "_law_take" s__law_take a.a__law_take a.d__law_take
  i__law_take : Binds K a.d__law_take ["_law_purse_here", "_law_many"] []
  m__law_take : mg "_law_take" = some (.ref a.a__law_take)
  k__law_take : PySem.W.keepIn K (.ref a.a__law_take) = true
  F__law_rooms : Fun K "_law_rooms" "_law_rooms" s__law_rooms a.a__law_rooms a.d__law_rooms
  i__law_rooms : Binds K a.d__law_rooms ["_law_purse_here", "_law_walkers"] []
  m__law_rooms : mg "_law_rooms" = some (.ref a.a__law_rooms)
  k__law_rooms : PySem.W.keepIn K (.ref a.a__law_rooms) = true
  F__law_step : Fun K "_law_step" "_law_step" s__law_step a.a__law_step a.d__law_step
  i__law_step : Binds K a.d__law_step ["_law_purse_here"] []
  m__law_step : mg "_law_step" = some (.ref a.a__law_step)
  k__law_step : PySem.W.keepIn K (.ref a.a__law_step) = true
  F__law_meetings : Fun K "_law_meetings" "_law_meetings" s__law_meetings a.a__law_meetings a.d__law_meetings
  i__law_meetings : Binds K a.d__law_meetings ["_law_purse_here", "_law_walkers", "_law_most"] []
  m__law_meetings : mg "_law_meetings" = some (.ref a.a__law_meetings)
  k__law_meetings : PySem.W.keepIn K (.ref a.a__law_meetings) = true
  F__law_book : Fun K "_law_book" "_law_book" s__law_book a.a__law_book a.d__law_book
  i__law_book : Binds K a.d__law_book ["_law_purse_here", "_law_most_walkers", "_law_most_meetings"] []
  m__law_book : mg "_law_book" = some (.ref a.a__law_book)
  k__law_book : PySem.W.keepIn K (.ref a.a__law_book) = true
  F__law_far : Fun K "_law_far" "_law_far" s__law_far a.a__law_far a.d__law_far
  i__law_far : Binds K a.d__law_far ["_law_purse_here"] []
  m__law_far : mg "_law_far" = some (.ref a.a__law_far)
  k__law_far : PySem.W.keepIn K (.ref a.a__law_far) = true
  F__law_time : Fun K "_law_time" "_law_time" s__law_time a.a__law_time a.d__law_time
  i__law_time : Binds K a.d__law_time ["_law_purse_here", "_law_book_here", "_law_later"] []
  m__law_time : mg "_law_time" = some (.ref a.a__law_time)
  k__law_time : PySem.W.keepIn K (.ref a.a__law_time) = true
  F__law_letter : Fun K "_law_letter" "_law_letter" s__law_letter a.a__law_letter a.d__law_letter
  i__law_letter : Binds K a.d__law_letter ["_law_purse_here", "_law_book_here"] []
  m__law_letter : mg "_law_letter" = some (.ref a.a__law_letter)
  k__law_letter : PySem.W.keepIn K (.ref a.a__law_letter) = true
  F_show_all : Fun K "show_all" "show_all" s_show_all a.a_show_all a.d_show_all
  i_show_all : Binds K a.d_show_all ["names", "book", "letters"] []
  m_show_all : mg "show_all" = some (.ref a.a_show_all)
  k_show_all : PySem.W.keepIn K (.ref a.a_show_all) = true
  F__law_names : Fun K "_law_names" "_law_names" s__law_names a.a__law_names a.d__law_names
  i__law_names : Binds K a.d__law_names ["_law_purse_here", "_law_many"] []
  m__law_names : mg "_law_names" = some (.ref a.a__law_names)
  k__law_names : PySem.W.keepIn K (.ref a.a__law_names) = true
  F__law_rows : Fun K "_law_rows" "_law_rows" s__law_rows a.a__law_rows a.d__law_rows
  i__law_rows : Binds K a.d__law_rows ["_law_names_here", "_law_book_here", "_law_letters_here"] []
  m__law_rows : mg "_law_rows" = some (.ref a.a__law_rows)
  k__law_rows : PySem.W.keepIn K (.ref a.a__law_rows) = true
  F_law : Fun K "law" "law" s_law a.a_law a.d_law
  i_law : Binds K a.d_law ["_law_script"] []
  m_law : mg "law" = some (.ref a.a_law)
  k_law : PySem.W.keepIn K (.ref a.a_law) = true
  b_int : mg "int" = none
  b_isinstance : mg "isinstance" = none
  b_len : mg "len" = none
  b_list : mg "list" = none
  b_max : mg "max" = none
  b_min : mg "min" = none
  b_range : mg "range" = none
  b_sorted : mg "sorted" = none
  b_str : mg "str" = none
  b_tuple : mg "tuple" = none
  b_zip : mg "zip" = none
section
variable {P : Program} {w : World} {K : PySem.W.Frag} {mg : Str → Option Value} {base : Heap} {a : Ad}
theorem sc__law_purse : FnScope ["_law_script", "_law_k", "_law_cell", "_law_left"] ["_law_script", "_law_k"] (defScope s__law_purse) := ⟨rfl, rfl, rfl, by decide +kernel, rfl, by decide +kernel, by decide +kernel⟩
theorem ok__law_purse (T : Tx K mg a) : FnOk P w K mg base CX0 1 a.a__law_purse a.d__law_purse ["_law_script", "_law_k"] (spPurse K) := by
  refine T.F__law_purse.ok sc__law_purse (fun vs H Q E h => ?_) (fun cdv A outer s H vs Q E hr h => ?_)
  · obtain ⟨a, ns, k, rfl, _⟩ := h; rfl
  · have nd := sc__law_purse.nd
    have hu := hr.units
    obtain ⟨sa, ns, k, rfl, hS, hk, q⟩ := h
    refine ⟨_, (@bl_out _ _ _ (@bl_c _ _ _ _ _ _ (ps_set (i := 2) nd rfl (by first | exact Or.inl rfl | exact Or.inr rfl) pe_int) (@bl_c _ _ _ _ _ _ (@ps_if _ _ _ _ _ _ _ _ (@pt_cmpR _ _ _ _ _ _ _ _ op_lt (pv 1) (pe_callB (call_len_seq' rfl) (by rfl) T.b_len PySem.boot_len (@pa_out _ _ _ (@pa_c _ _ _ _ _ (pv 0) pa_n rfl))) (nomark _)) (@bl_out _ _ _ (@bl_1 _ _ _ (ps_set (i := 2) nd rfl (by first | exact Or.inl rfl | exact Or.inr rfl) (@pe_ix _ _ _ _ _ _ _ (ix_list' rfl) (pv 0) (pv 1) (fun _ _ => rfl))))) pss_nil) (@bl_c _ _ _ _ _ _ (ps_set (i := 3) nd rfl (by first | exact Or.inl rfl | exact Or.inr rfl) pe_int) (@bl_c _ _ _ _ _ _ (@ps_if _ _ _ _ _ _ _ _ (@pt_cmpR _ _ _ _ _ _ _ _ op_lt (pv 2) pe_int (nomark _)) (@bl_out _ _ _ (@bl_1 _ _ _ (ps_set (i := 3) nd rfl (by first | exact Or.inl rfl | exact Or.inr rfl) (@pe_op _ _ _ _ _ _ _ _ op_sub (@pe_un _ _ _ _ _ _ un_neg pe_int) (pv 2))))) pss_nil) (@bl_c _ _ _ _ _ _ (@ps_if _ _ _ _ _ _ _ _ (@pt_cmpR _ _ _ _ _ _ _ _ op_ge (pv 2) (@pe_op _ _ _ _ _ _ _ _ op_pow pe_int pe_int) (nomark _)) (@bl_out _ _ _ (@bl_1 _ _ _ (ps_set (i := 3) nd rfl (by first | exact Or.inl rfl | exact Or.inr rfl) (pv 2)))) pss_nil) (@bl_1 _ _ _ (@ps_ret _ _ _ _ (@pe_lst _ _ _ _ (@pa_out _ _ _ (@pa_c _ _ _ _ _ (pv 3) (@pa_c _ _ _ _ _ (@pe_op _ _ _ _ _ _ _ _ op_mod (@pe_op _ _ _ _ _ _ _ _ op_add (@pe_op _ _ _ _ _ _ _ _ op_add (@pe_op _ _ _ _ _ _ _ _ op_mul (pv 2) pe_int) (@pe_op _ _ _ _ _ _ _ _ op_mul (pv 1) pe_int)) pe_int) pe_int) (@pa_c _ _ _ _ _ pe_int pa_n rfl) rfl) rfl))))))))))), ?_⟩
    have c18 : CPow 10 18 := ⟨by decide, by decide, by decide⟩
    have s3 : 3 ≤ sizeLine := by rw [sizeLine_eq]; decide
    have fin : ∀ (x y : Int) p, H p = none → Q (.ref p) (upd H p (.lst [.int x, .int y, .int 0])) := fun x y p hp => q p _ hp ⟨x, y, 0, upd_same⟩ (same_new hp)
    have c69 : ∀ x : Int, CMul x 69 := fun x => .inr ⟨by decide, by decide⟩
    have c405 : ∀ x : Int, CMul x 40503 := fun x => .inr ⟨by decide, by decide⟩
    refine (zr rfl (zr rfl ⟨sa, zr rfl ⟨.inl hS, zr2 rfl rfl (zr rfl (iteN (fun σ H1 => ∃ c : Int, σ = [some (.ref sa), some (.int k), some (.int c), none] ∧ H = H1) ?_ (fun c k0 => ?_) (fun c => ⟨0, rfl, rfl⟩)))⟩⟩))
    · rintro σ H1 ⟨c, rfl, rfl⟩
      refine (zr rfl (zr2 rfl rfl (zr rfl (iteN (fun σ H1 => ∃ d : Int, σ = [some (.ref sa), some (.int k), some (.int c), some (.int d)] ∧ H = H1) ?_ (fun z k0 => ?_) (fun z => ⟨0, rfl, rfl⟩)))))
      · rintro σ H1 ⟨d, rfl, rfl⟩
        refine (zr rfl (zr2 rfl rfl ⟨c18, zr2 rfl rfl (zr rfl (iteN (fun σ H1 => ∃ d : Int, σ = [some (.ref sa), some (.int k), some (.int c), some (.int d)] ∧ H = H1) ?_ (fun z k0 => (zr rfl (k0 _ _ ⟨c, rfl, rfl⟩))) (fun z => ⟨d, rfl, rfl⟩)))⟩))
        rintro σ H1 ⟨d, rfl, rfl⟩
        exact (zr rfl (zr rfl (zr2 rfl rfl ⟨c69 _, zr rfl (zr2 rfl rfl ⟨c405 _, zr2 rfl rfl (zr2 rfl rfl (zr2 rfl rfl ⟨(by show (0 : Int) < 2147483647; decide), s3, fin _ _⟩))⟩)⟩)))
      · exact (zr rfl (zr rfl (zr2 rfl rfl (k0 _ _ (zr rfl rfl)))))
    · have hk2 : k < ns.length := by
        have := of_decide_eq_true c
        rw [List.length_map] at this; omega
      exact (zr rfl (zr rfl ⟨sa, _, zr2 rfl rfl ⟨hS, atI_nat (v := V.int ns[k]) (by simp [hk2]), k0 _ _ (zr rfl rfl)⟩⟩))
theorem sc__law_take : FnScope ["_law_purse_here", "_law_many", "_law_digit", "_law_mixed"] ["_law_purse_here", "_law_many"] (defScope s__law_take) := ⟨rfl, rfl, rfl, by decide +kernel, rfl, by decide +kernel, by decide +kernel⟩
theorem ok__law_take (T : Tx K mg a) : FnOk P w K mg base CX0 1 a.a__law_take a.d__law_take ["_law_purse_here", "_law_many"] (spTake) := by
  refine T.F__law_take.ok sc__law_take (fun vs H Q E h => ?_) (fun cdv A outer s H vs Q E hr h => ?_)
  · obtain ⟨p, n, rfl, _⟩ := h; rfl
  · have nd := sc__law_take.nd
    have hu := hr.units
    obtain ⟨p, n, rfl, n0, n1, ⟨x, y, z, hp⟩, q⟩ := h
    refine ⟨_, (@bl_out _ _ _ (@bl_c _ _ _ _ _ _ (@ps_if _ _ _ _ _ _ _ _ (@pt_cmpR _ _ _ _ _ _ _ _ op_gt (@pe_ix _ _ _ _ _ _ _ (ix_list' rfl) (pv 0) pe_int (fun _ _ => rfl)) pe_int (nomark _)) (@bl_out _ _ _ (@bl_c _ _ _ _ _ _ (ps_set (i := 2) nd rfl (by first | exact Or.inl rfl | exact Or.inr rfl) (@pe_op _ _ _ _ _ _ _ _ op_mod (@pe_ix _ _ _ _ _ _ _ (ix_list' rfl) (pv 0) pe_int (fun _ _ => rfl)) (pv 1))) (@bl_c _ _ _ _ _ _ (ps_asg (@pe_op _ _ _ _ _ _ _ _ op_fdivB (@pe_ix _ _ _ _ _ _ _ (ix_list' rfl) (pv 0) pe_int (fun _ _ => rfl)) (pv 1)) (pg_sub (pv 0) pe_int set_list)) (@bl_1 _ _ _ (@ps_ret _ _ _ _ (pv 2)))))) pss_nil) (@bl_c _ _ _ _ _ _ (ps_augS (pv 0) pe_int (get_list rfl) pe_int ip_add set_list) (@bl_c _ _ _ _ _ _ (ps_set (i := 3) nd rfl (by first | exact Or.inl rfl | exact Or.inr rfl) (@pe_op _ _ _ _ _ _ _ _ op_mod (@pe_op _ _ _ _ _ _ _ _ op_mul (@pe_op _ _ _ _ _ _ _ _ op_add (@pe_ix _ _ _ _ _ _ _ (ix_list' rfl) (pv 0) pe_int (fun _ _ => rfl)) (@pe_op _ _ _ _ _ _ _ _ op_mul (@pe_ix _ _ _ _ _ _ _ (ix_list' rfl) (pv 0) pe_int (fun _ _ => rfl)) pe_int)) pe_int) pe_int)) (@bl_c _ _ _ _ _ _ (ps_set (i := 3) nd rfl (by first | exact Or.inl rfl | exact Or.inr rfl) (@pe_op _ _ _ _ _ _ _ _ op_mod (@pe_op _ _ _ _ _ _ _ _ op_add (@pe_op _ _ _ _ _ _ _ _ op_add (@pe_op _ _ _ _ _ _ _ _ op_mul (pv 3) (pv 3)) (@pe_op _ _ _ _ _ _ _ _ op_mul (@pe_ix _ _ _ _ _ _ _ (ix_list' rfl) (pv 0) pe_int (fun _ _ => rfl)) pe_int)) (@pe_ix _ _ _ _ _ _ _ (ix_list' rfl) (pv 0) pe_int (fun _ _ => rfl))) pe_int)) (@bl_1 _ _ _ (@ps_ret _ _ _ _ (@pe_op _ _ _ _ _ _ _ _ op_mod (@pe_op _ _ _ _ _ _ _ _ op_fdivB (@pe_op _ _ _ _ _ _ _ _ op_mod (@pe_op _ _ _ _ _ _ _ _ op_mul (pv 3) pe_int) pe_int) pe_int) (pv 1))))))))), ?_⟩
    have hS : SqL K H p _ := SqL.of hp
    have cm : ∀ x c : Int, -(2 ^ 64) < c → c < 2 ^ 64 → CMul x c := fun x c h h' => .inr ⟨h, h'⟩
    refine (zr rfl ⟨p, _, zr2 rfl rfl ⟨hS, rfl, zr2 rfl rfl (zr rfl (iteD (fun h1 => ?_) fun h1 => ?_))⟩⟩)
    · refine (zr rfl ⟨p, _, zr2 rfl rfl ⟨hS, rfl, zr rfl (zr2 rfl rfl ⟨n0, ?_⟩)⟩⟩)
      refine (zr rfl ⟨p, _, zr2 rfl rfl ⟨hS, rfl, zr rfl (zr2 rfl rfl ⟨⟨n0, n1⟩, zr rfl ⟨p, _, _, 0, rfl, rfl, hp, rfl, ?_⟩⟩)⟩⟩)
      exact (zr rfl (q _ _ (Int.emod_nonneg _ (by omega)) (Int.emod_lt_of_pos _ n0) ⟨But.set, _, _, _, upd_same⟩))
    · refine (zr rfl ⟨p, _, zr2 rfl rfl ⟨hS, rfl, zr2 rfl rfl ⟨p, _, _, 2, rfl, rfl, hp, rfl, ?_⟩⟩⟩)
      have h2 : (upd H p (HO.lst ([V.int x, V.int y, V.int z].set 2 (.int (z + 1))))) p = some (.lst [V.int x, V.int y, V.int (z + 1)]) := upd_same
      have b2 : But p H (upd H p (HO.lst ([V.int x, V.int y, V.int z].set 2 (.int (z + 1))))) := But.set
      generalize upd H p (HO.lst ([V.int x, V.int y, V.int z].set 2 (.int (z + 1)))) = H2 at h2 b2 ⊢
      have hS2 : SqL K H2 p _ := SqL.of h2
      have big : (2147483647 : Int) < 2 ^ 64 := by decide
      have low : -(2 : Int) ^ 64 < 0 := by decide
      have pos : (0 : Int) < 2147483647 := by decide
      refine (zr rfl ⟨p, _, zr2 rfl rfl ⟨hS2, rfl, zr rfl ⟨p, _, zr2 rfl rfl ⟨hS2, rfl, zr2 rfl rfl ⟨cm _ _ (by decide) (by decide), zr2 rfl rfl (zr2 rfl rfl ⟨cm _ _ (by decide) (by decide), zr2 rfl rfl ⟨(by show (0 : Int) < 2147483647; decide), ?_⟩⟩)⟩⟩⟩⟩⟩)
      have m0 := Int.emod_nonneg ((y + (z + 1) * 362437) * 48271) (show (2147483647 : Int) ≠ 0 by decide)
      have m1 := Int.emod_lt_of_pos ((y + (z + 1) * 362437) * 48271) pos
      refine (zr rfl (zr rfl (zr2 rfl rfl ⟨.inl ⟨Int.lt_of_lt_of_le low m0, Int.lt_trans m1 big⟩, zr rfl ⟨p, _, zr2 rfl rfl ⟨hS2, rfl, zr2 rfl rfl ⟨cm _ _ (by decide) (by decide), zr2 rfl rfl (zr rfl ⟨p, _, zr2 rfl rfl ⟨hS2, rfl, zr2 rfl rfl (zr2 rfl rfl ⟨(by show (0 : Int) < 2147483629; decide), ?_⟩)⟩⟩)⟩⟩⟩⟩)))
      refine (zr rfl (zr2 rfl rfl ⟨cm _ _ (by decide) (by decide), zr2 rfl rfl ⟨(by show (0 : Int) < 2147483563; decide), zr2 rfl rfl ⟨⟨by decide, by decide⟩, zr rfl (zr2 rfl rfl ⟨n0, ?_⟩)⟩⟩⟩))
      exact q _ _ (Int.emod_nonneg _ (by omega)) (Int.emod_lt_of_pos _ n0) ⟨b2, _, _, _, h2⟩
theorem sc__law_rooms : FnScope ["_law_purse_here", "_law_walkers", "_law_rooms_here", "_law_walker", "_law_room"] ["_law_purse_here", "_law_walkers"] (defScope s__law_rooms) := ⟨rfl, rfl, rfl, by decide +kernel, rfl, by decide +kernel, by decide +kernel⟩
theorem ok__law_rooms (T : Tx K mg a) : FnOk P w K mg base CX0 2 a.a__law_rooms a.d__law_rooms ["_law_purse_here", "_law_walkers"] (spRooms) := by
  have G__law_take := @ok__law_take P w _ _ base _ T
  refine T.F__law_rooms.ok sc__law_rooms (fun vs H Q E h => ?_) (fun cdv A outer s H vs Q E hr h => ?_)
  · obtain ⟨p, n, rfl, _⟩ := h; rfl
  · have nd := sc__law_rooms.nd
    have hu := hr.units
    obtain ⟨p, n, rfl, hn, hp, q⟩ := h
    refine ⟨_, (@bl_out _ _ _ (@bl_c _ _ _ _ _ _ (ps_set (i := 2) nd rfl (by first | exact Or.inl rfl | exact Or.inr rfl) (@pe_lst _ _ _ _ pa_nil)) (@bl_c _ _ _ _ _ _ (ps_for PassesOwn.never rfl (pi_range1 rfl T.b_range (@pa_out _ _ _ (@pa_c _ _ _ _ _ (pv 1) pa_n rfl))) (pg_name (i := 3) nd rfl (by first | exact Or.inl rfl | exact Or.inr rfl)) (@bl_out _ _ _ (@bl_c _ _ _ _ _ _ (ps_set (i := 4) nd rfl (by first | exact Or.inl rfl | exact Or.inr rfl) (@pe_op _ _ _ _ _ _ _ _ op_fdivB (pe_call G__law_take (hr.mono (by decide)) rfl T.m__law_take T.k__law_take T.i__law_take .nil pass0 (@pa_out _ _ _ (@pa_c _ _ _ _ _ (pv 0) (@pa_c _ _ _ _ _ pe_int pa_n rfl) rfl))) pe_int)) (@bl_c _ _ _ _ _ _ (@ps_if _ _ _ _ _ _ _ _ (@pt_cmpR _ _ _ _ _ _ _ _ op_eq (pv 4) pe_int (nomark _)) (@bl_out _ _ _ (@bl_1 _ _ _ (ps_set (i := 4) nd rfl (by first | exact Or.inl rfl | exact Or.inr rfl) (pe_call G__law_take (hr.mono (by decide)) rfl T.m__law_take T.k__law_take T.i__law_take .nil pass0 (@pa_out _ _ _ (@pa_c _ _ _ _ _ (pv 0) (@pa_c _ _ _ _ _ pe_int pa_n rfl) rfl)))))) pss_nil) (@bl_1 _ _ _ (ps_expr (pe_bm PySem.F.plainAttrs_list PySem.F.slot_list_append PySem.F.type_list_append mt_append (pv 2) (@pa_out _ _ _ (@pa_c _ _ _ _ _ (pv 4) pa_n rfl))))))))) (@bl_1 _ _ _ (@ps_ret _ _ _ _ (pe_callTy (call_tuple_of) (by rfl) T.b_tuple PyProof.Rows.boot_tuple (@pa_out _ _ _ (@pa_c _ _ _ _ _ (pv 2) pa_n rfl)))))))), ?_⟩
    have line : 1001 ≤ sizeLine := by rw [sizeLine_eq]; decide
    refine ⟨Nat.zero_le _, fun l hl => ?_⟩
    have npl := hp.ne hl
    refine (zr rfl (zr rfl ⟨by omega, by omega, ?_⟩))
    refine for_range (lo := 0) (n := n) (fun i σ H2 => ∃ v3 v4 rs, σ = [some (.ref p), some (.int n), some (.ref l), v3, v4] ∧ H2 l = some (.lst (List.map V.int rs)) ∧ rs.length = i ∧ (∀ r ∈ rs, (0 : Int) ≤ r ∧ r ≤ 99) ∧ Go p H H2)
      ⟨_, _, [], rfl, upd_same, rfl, (fun _ z => nomatch z), (Go.refl hp).new hl⟩ ?_ ?_
    · rintro i σ H2 hi ⟨v3, v4, rs, rfl, h2, hlen, hr, go⟩
      refine (zr rfl ⟨p, zr rfl ⟨by decide, by decide, go.2, fun d H3 d0 d1 g3 => (zr2 rfl rfl ⟨⟨by decide, by decide⟩, ?_⟩)⟩⟩)
      refine (zr rfl ⟨rfl, zr rfl (iteN (fun σ H4 => ∃ x : Int, σ = [some (.ref p), some (.int n), some (.ref l), some (.int (0 + (i : Int))), some (.int x)] ∧ 0 ≤ x ∧ x ≤ 99 ∧ Go p H2 H4) ?_ (fun c k0 => (zr rfl ⟨p, zr rfl ⟨by decide, by decide, g3.2, fun e H4 e0 e1 g4 => k0 _ _ ⟨e, rfl, e0, by omega, g3.trans g4⟩⟩⟩)) (fun c => (zr rfl ⟨by omega, by omega, g3⟩)))⟩)
      rintro σ H4 ⟨x, rfl, x0, x1, g4⟩
      have h4 := g4.1 l _ npl h2
      refine (zr rfl ⟨.inl ⟨rfl, _, SqL.of h4⟩, zr rfl ⟨l, zr2 rfl rfl ⟨h4, by rw [List.length_map]; omega, _, _, rs ++ [x], rfl, by rw [upd_same, List.map_append]; rfl, by simp [hlen], fun r hr' => ?_, ?_⟩⟩⟩)
      · rcases List.mem_append.mp hr' with h | h
        · exact hr r h
        · cases List.mem_singleton.mp h; exact ⟨x0, x1⟩
      · have g2 := go.trans g4
        refine ⟨fun b u nb e => ?_, ?_⟩
        · rw [upd_ne (ne_of_none e hl)]; exact g2.1 b u nb e
        · obtain ⟨a, b, c, e⟩ := g2.2
          exact ⟨a, b, c, by rw [upd_ne npl.symm]; exact e⟩
    · rintro σ H2 ⟨v3, v4, rs, rfl, h2, hlen, hr, go⟩
      exact (zr rfl ⟨l, zr rfl (.inl ⟨SqL.of h2, fun t ht => q t rs _ (go.new ht) upd_same hlen hr⟩)⟩)
theorem sc__law_step : FnScope ["_law_purse_here", "_law_way"] ["_law_purse_here"] (defScope s__law_step) := ⟨rfl, rfl, rfl, by decide +kernel, rfl, by decide +kernel, by decide +kernel⟩
theorem ok__law_step (T : Tx K mg a) : FnOk P w K mg base CX0 2 a.a__law_step a.d__law_step ["_law_purse_here"] (spStep) := by
  have G__law_take := @ok__law_take P w _ _ base _ T
  refine T.F__law_step.ok sc__law_step (fun vs H Q E h => ?_) (fun cdv A outer s H vs Q E hr h => ?_)
  · obtain ⟨p, rfl, _⟩ := h; rfl
  · have nd := sc__law_step.nd
    have hu := hr.units
    obtain ⟨p, rfl, hp, q⟩ := h
    refine ⟨_, (@bl_out _ _ _ (@bl_c _ _ _ _ _ _ (ps_set (i := 1) nd rfl (by first | exact Or.inl rfl | exact Or.inr rfl) (pe_call G__law_take (hr.mono (by decide)) rfl T.m__law_take T.k__law_take T.i__law_take .nil pass0 (@pa_out _ _ _ (@pa_c _ _ _ _ _ (pv 0) (@pa_c _ _ _ _ _ pe_int pa_n rfl) rfl)))) (@bl_c _ _ _ _ _ _ (@ps_if _ _ _ _ _ _ _ _ (@pt_cmpR _ _ _ _ _ _ _ _ op_lt (pv 1) pe_int (nomark _)) (@bl_out _ _ _ (@bl_1 _ _ _ (@ps_ret _ _ _ _ (@pe_ix _ _ _ _ _ _ _ (ix_list' rfl) (@pe_lst _ _ _ _ (@pa_out _ _ _ (@pa_c _ _ _ _ _ pe_int (@pa_c _ _ _ _ _ pe_int (@pa_c _ _ _ _ _ pe_int pa_n rfl) rfl) rfl))) (pv 1) (fun _ _ => rfl))))) pss_nil) (@bl_c _ _ _ _ _ _ (@ps_if _ _ _ _ _ _ _ _ (@pt_cmpR _ _ _ _ _ _ _ _ op_eq (pv 1) pe_int (nomark _)) (@bl_out _ _ _ (@bl_1 _ _ _ (@ps_ret _ _ _ _ (@pe_op _ _ _ _ _ _ _ _ op_add pe_int (pe_call G__law_take (hr.mono (by decide)) rfl T.m__law_take T.k__law_take T.i__law_take .nil pass0 (@pa_out _ _ _ (@pa_c _ _ _ _ _ (pv 0) (@pa_c _ _ _ _ _ pe_int pa_n rfl) rfl))))))) pss_nil) (@bl_1 _ _ _ (@ps_ret _ _ _ _ (@pe_op _ _ _ _ _ _ _ _ op_add pe_int (pe_call G__law_take (hr.mono (by decide)) rfl T.m__law_take T.k__law_take T.i__law_take .nil pass0 (@pa_out _ _ _ (@pa_c _ _ _ _ _ (pv 0) (@pa_c _ _ _ _ _ (@pe_op _ _ _ _ _ _ _ _ op_mul pe_int (@pe_op _ _ _ _ _ _ _ _ op_pow pe_int pe_int)) pa_n rfl) rfl)))))))))), ?_⟩
    have s3 : 3 ≤ sizeLine := by rw [sizeLine_eq]; decide
    refine (zr rfl ⟨p, zr rfl ⟨by decide, by decide, hp, fun d H1 d0 d1 g1 => (zr rfl (zr2 rfl rfl (zr rfl (iteD (fun h1 => ?_) fun h1 => ?_))))⟩⟩)
    · obtain ⟨v, hv, v0, v1⟩ : ∃ v : Int, atI [V.int 0, V.int 1, V.int 1] d = some (V.int v) ∧ 0 ≤ v ∧ v ≤ 1 := by
        obtain rfl | rfl | rfl : d = 0 ∨ d = 1 ∨ d = 2 := by omega
        · exact ⟨0, rfl, by decide, by decide⟩
        · exact ⟨1, rfl, by decide, by decide⟩
        · exact ⟨1, rfl, by decide, by decide⟩
      exact ⟨s3, fun l hl => (zr rfl (ixl upd_same hv (q _ _ v0 (by omega) (g1.new hl))))⟩
    · refine (zr rfl ⟨rfl, zr rfl (iteD (fun h2 => ?_) fun h2 => ?_)⟩)
      · exact (zr rfl ⟨p, zr rfl ⟨by decide, by decide, g1.2, fun e H2 e0 e1 g2 => (zr2 rfl rfl (q _ _ (by omega) (by omega) (g1.trans g2)))⟩⟩)
      · have e16 : (16 : Int) * 10 ^ Int.toNat 6 = 16000000 := by decide
        refine (zr rfl (zr2 rfl rfl ⟨⟨by decide, by decide, by decide⟩, zr2 rfl rfl ⟨.inl ⟨by decide, by decide⟩, p, zr rfl ⟨by decide, by decide, g1.2, fun e H2 e0 e1 g2 => (zr2 rfl rfl (q _ _ (by omega) (by rw [e16] at e1; omega) (g1.trans g2)))⟩⟩⟩))
theorem sc__law_meetings : FnScope ["_law_purse_here", "_law_walkers", "_law_most", "_law_found", "_law_when", "_law_busy", "_law_k", "_law_one", "_law_other", "_law_gap", "_law_passed", "_law_late"] ["_law_purse_here", "_law_walkers", "_law_most"] (defScope s__law_meetings) := ⟨rfl, rfl, rfl, by decide +kernel, rfl, by decide +kernel, by decide +kernel⟩
theorem ok__law_meetings (T : Tx K mg a) : FnOk P w K mg base CX0 3 a.a__law_meetings a.d__law_meetings ["_law_purse_here", "_law_walkers", "_law_most"] (spMeetings) := by
  have G__law_take := @ok__law_take P w _ _ base _ T
  have G__law_step := @ok__law_step P w _ _ base _ T
  refine T.F__law_meetings.ok sc__law_meetings (fun vs H Q E h => ?_) (fun cdv A outer s H vs Q E hr h => ?_)
  · obtain ⟨p, w, n, rfl, _⟩ := h; rfl
  · have nd := sc__law_meetings.nd
    have hu := hr.units
    obtain ⟨p, w, n, rfl, hn, w9, hw, hp, q⟩ := h
    refine ⟨_, (@bl_out _ _ _ (@bl_c _ _ _ _ _ _ (ps_set (i := 3) nd rfl (by first | exact Or.inl rfl | exact Or.inr rfl) (@pe_lst _ _ _ _ pa_nil)) (@bl_c _ _ _ _ _ _ (ps_set (i := 4) nd rfl (by first | exact Or.inl rfl | exact Or.inr rfl) (@pe_op _ _ _ _ _ _ _ _ op_add pe_int (@pe_op _ _ _ _ _ _ _ _ op_mul (@pe_op _ _ _ _ _ _ _ _ op_fdivB (pe_call G__law_take (hr.mono (by decide)) rfl T.m__law_take T.k__law_take T.i__law_take .nil pass0 (@pa_out _ _ _ (@pa_c _ _ _ _ _ (pv 0) (@pa_c _ _ _ _ _ pe_int pa_n rfl) rfl))) pe_int) (pe_call G__law_take (hr.mono (by decide)) rfl T.m__law_take T.k__law_take T.i__law_take .nil pass0 (@pa_out _ _ _ (@pa_c _ _ _ _ _ (pv 0) (@pa_c _ _ _ _ _ (@pe_op _ _ _ _ _ _ _ _ op_pow pe_int pe_int) pa_n rfl) rfl)))))) (@bl_c _ _ _ _ _ _ (ps_set (i := 5) nd rfl (by first | exact Or.inl rfl | exact Or.inr rfl) (@pe_lst _ _ _ _ pa_nil)) (@bl_c _ _ _ _ _ _ (ps_for PassesOwn.never rfl (pi_range1 rfl T.b_range (@pa_out _ _ _ (@pa_c _ _ _ _ _ (pv 2) pa_n rfl))) (pg_name (i := 6) nd rfl (by first | exact Or.inl rfl | exact Or.inr rfl)) (@bl_out _ _ _ (@bl_c _ _ _ _ _ _ (ps_set (i := 7) nd rfl (by first | exact Or.inl rfl | exact Or.inr rfl) (pe_call G__law_take (hr.mono (by decide)) rfl T.m__law_take T.k__law_take T.i__law_take .nil pass0 (@pa_out _ _ _ (@pa_c _ _ _ _ _ (pv 0) (@pa_c _ _ _ _ _ (pv 1) pa_n rfl) rfl)))) (@bl_c _ _ _ _ _ _ (ps_set (i := 8) nd rfl (by first | exact Or.inl rfl | exact Or.inr rfl) (@pe_op _ _ _ _ _ _ _ _ op_mod (@pe_op _ _ _ _ _ _ _ _ op_add (@pe_op _ _ _ _ _ _ _ _ op_add (pv 7) pe_int) (pe_call G__law_take (hr.mono (by decide)) rfl T.m__law_take T.k__law_take T.i__law_take .nil pass0 (@pa_out _ _ _ (@pa_c _ _ _ _ _ (pv 0) (@pa_c _ _ _ _ _ (@pe_op _ _ _ _ _ _ _ _ op_sub (pv 1) pe_int) pa_n rfl) rfl)))) (pv 1))) (@bl_c _ _ _ _ _ _ (ps_set (i := 9) nd rfl (by first | exact Or.inl rfl | exact Or.inr rfl) (pe_call G__law_step (hr.mono (by decide)) rfl T.m__law_step T.k__law_step T.i__law_step .nil pass0 (@pa_out _ _ _ (@pa_c _ _ _ _ _ (pv 0) pa_n rfl)))) (@bl_c _ _ _ _ _ _ (@ps_if _ _ _ _ _ _ _ _ (@PW.pt _ _ _ (@pw_or _ _ _ _ _ _ _ (@pt_cmpR _ _ _ _ _ _ _ _ (op_in_seq' rfl) (pv 7) (pv 5) rfl) (@pw_or1 _ _ _ _ (@pt_cmpR _ _ _ _ _ _ _ _ (op_in_seq' rfl) (pv 8) (pv 5) rfl)))) (@bl_out _ _ _ (@bl_1 _ _ _ (ps_set (i := 9) nd rfl (by first | exact Or.inl rfl | exact Or.inr rfl) (pe_callB (call_max2 rfl) (by rfl) T.b_max PyProof.Rows.boot_max (@pa_out _ _ _ (@pa_c _ _ _ _ _ pe_int (@pa_c _ _ _ _ _ (pv 9) pa_n rfl) rfl)))))) pss_nil) (@bl_c _ _ _ _ _ _ (@ps_if _ _ _ _ _ _ _ _ (@pt_cmpR _ _ _ _ _ _ _ _ op_gt (pv 9) pe_int (nomark _)) (@bl_out _ _ _ (@bl_1 _ _ _ (ps_set (i := 5) nd rfl (by first | exact Or.inl rfl | exact Or.inr rfl) (@pe_lst _ _ _ _ pa_nil)))) pss_nil) (@bl_c _ _ _ _ _ _ (ps_set (i := 4) nd rfl (by first | exact Or.inl rfl | exact Or.inr rfl) (@pe_op _ _ _ _ _ _ _ _ op_add (pv 4) (pv 9))) (@bl_c _ _ _ _ _ _ (ps_set (i := 5) nd rfl (by first | exact Or.inl rfl | exact Or.inr rfl) (@pe_op _ _ _ _ _ _ _ _ op_cat (pv 5) (@pe_lst _ _ _ _ (@pa_out _ _ _ (@pa_c _ _ _ _ _ (pv 7) (@pa_c _ _ _ _ _ (pv 8) pa_n rfl) rfl))))) (@bl_c _ _ _ _ _ _ (ps_set (i := 10) nd rfl (by first | exact Or.inl rfl | exact Or.inr rfl) (@pe_op _ _ _ _ _ _ _ _ op_add pe_int (@pe_op _ _ _ _ _ _ _ _ op_fdivB (pe_call G__law_take (hr.mono (by decide)) rfl T.m__law_take T.k__law_take T.i__law_take .nil pass0 (@pa_out _ _ _ (@pa_c _ _ _ _ _ (pv 0) (@pa_c _ _ _ _ _ pe_int pa_n rfl) rfl))) pe_int))) (@bl_c _ _ _ _ _ _ (@ps_if _ _ _ _ _ _ _ _ (@pt_cmpR _ _ _ _ _ _ _ _ op_eq (pe_call G__law_take (hr.mono (by decide)) rfl T.m__law_take T.k__law_take T.i__law_take .nil pass0 (@pa_out _ _ _ (@pa_c _ _ _ _ _ (pv 0) (@pa_c _ _ _ _ _ pe_int pa_n rfl) rfl))) pe_int (nomark _)) (@bl_out _ _ _ (@bl_1 _ _ _ (ps_set (i := 10) nd rfl (by first | exact Or.inl rfl | exact Or.inr rfl) (@pe_op _ _ _ _ _ _ _ _ op_add pe_int (pe_call G__law_take (hr.mono (by decide)) rfl T.m__law_take T.k__law_take T.i__law_take .nil pass0 (@pa_out _ _ _ (@pa_c _ _ _ _ _ (pv 0) (@pa_c _ _ _ _ _ pe_int pa_n rfl) rfl))))))) pss_nil) (@bl_1 _ _ _ (ps_expr (pe_bm PySem.F.plainAttrs_list PySem.F.slot_list_append PySem.F.type_list_append mt_append (pv 3) (@pa_out _ _ _ (@pa_c _ _ _ _ _ (@pe_tup _ _ _ _ _ (@pa_out _ _ _ (@pa_c _ _ _ _ _ (pv 4) (@pa_c _ _ _ _ _ (pe_callB (call_min2 rfl) (by rfl) T.b_min PyProof.Rows.boot_min (@pa_out _ _ _ (@pa_c _ _ _ _ _ (pv 7) (@pa_c _ _ _ _ _ (pv 8) pa_n rfl) rfl))) (@pa_c _ _ _ _ _ (pe_callB (call_max2 rfl) (by rfl) T.b_max PyProof.Rows.boot_max (@pa_out _ _ _ (@pa_c _ _ _ _ _ (pv 7) (@pa_c _ _ _ _ _ (pv 8) pa_n rfl) rfl))) (@pa_c _ _ _ _ _ (pv 10) pa_n rfl) rfl) rfl) rfl))) pa_n rfl)))))))))))))))) (@bl_c _ _ _ _ _ _ (ps_set (i := 11) nd rfl (by first | exact Or.inl rfl | exact Or.inr rfl) pe_int) (@bl_c _ _ _ _ _ _ (@ps_if _ _ _ _ _ _ _ _ (@PW.pt _ _ _ (@pw_and _ _ _ _ _ _ _ (@pt_cmpR _ _ _ _ _ _ _ _ op_eq (pe_call G__law_take (hr.mono (by decide)) rfl T.m__law_take T.k__law_take T.i__law_take .nil pass0 (@pa_out _ _ _ (@pa_c _ _ _ _ _ (pv 0) (@pa_c _ _ _ _ _ pe_int pa_n rfl) rfl))) pe_int (nomark _)) (@pw_and1 _ _ _ _ (@pt_cmpR _ _ _ _ _ _ _ _ (op_neNil hu) (pv 3) (@pe_lst _ _ _ _ pa_nil) (nomark _))))) (@bl_out _ _ _ (@bl_1 _ _ _ (ps_set (i := 11) nd rfl (by first | exact Or.inl rfl | exact Or.inr rfl) (@pe_op _ _ _ _ _ _ _ _ op_sub (@pe_op _ _ _ _ _ _ _ _ op_pow pe_int pe_int) (pv 4))))) pss_nil) (@bl_1 _ _ _ (@ps_ret _ _ _ _ (pe_callTy (call_tuple_of) (by rfl) T.b_tuple PyProof.Rows.boot_tuple (@pa_out _ _ _ (@pa_c _ _ _ _ _ (pe_comp (own := ["_law_then", "_law_low", "_law_high", "_law_room"]) (caps := [11]) rfl (show CompScope ["_law_then", "_law_low", "_law_high", "_law_room"] [11] ["_law_purse_here", "_law_walkers", "_law_most", "_law_found", "_law_when", "_law_busy", "_law_k", "_law_one", "_law_other", "_law_gap", "_law_passed", "_law_late"] (defScope s__law_meetings) _ from ⟨rfl, by decide +kernel, by decide +kernel, by decide +kernel, by decide +kernel⟩) (@pi_list' _ _ _ _ _ rfl (pe_callB (call_sortT) (by rfl) T.b_sorted PyProof.Rows.boot_sorted (@pa_out _ _ _ (@pa_c _ _ _ _ _ (pv 3) pa_n rfl)))) (fun _ _ _ _ => (pg_tup' (n := 4) rfl rfl (pgs_cons (pg_name (i := 0) (show List.Nodup (["_law_then", "_law_low", "_law_high", "_law_room", "_law_late"] : List Str) from by decide +kernel) rfl (by first | exact Or.inl rfl | exact Or.inr rfl)) (pgs_cons (pg_name (i := 1) (show List.Nodup (["_law_then", "_law_low", "_law_high", "_law_room", "_law_late"] : List Str) from by decide +kernel) rfl (by first | exact Or.inl rfl | exact Or.inr rfl)) (pgs_cons (pg_name (i := 2) (show List.Nodup (["_law_then", "_law_low", "_law_high", "_law_room", "_law_late"] : List Str) from by decide +kernel) rfl (by first | exact Or.inl rfl | exact Or.inr rfl)) (pgs_cons (pg_name (i := 3) (show List.Nodup (["_law_then", "_law_low", "_law_high", "_law_room", "_law_late"] : List Str) from by decide +kernel) rfl (by first | exact Or.inl rfl | exact Or.inr rfl)) pgs_nil)))))) (fun _ _ _ _ => pts_nil) (fun _ _ _ _ => (@pe_tup _ _ _ _ _ (@pa_out _ _ _ (@pa_c _ _ _ _ _ (pv 1) (@pa_c _ _ _ _ _ (pv 2) (@pa_c _ _ _ _ _ (@pe_op _ _ _ _ _ _ _ _ op_add (pv 0) (pv 4)) (@pa_c _ _ _ _ _ (pv 3) pa_n rfl) rfl) rfl) rfl))))) pa_n rfl)))))))))))), ?_⟩
    have line : 1001 ≤ sizeLine := by rw [sizeLine_eq]; decide
    have c7 : CPow 10 7 := ⟨by decide, by decide, by decide⟩
    have e7 : (10 : Int) ^ Int.toNat 7 = 10000000 := by decide
    have e64 : (2 : Int) ^ 64 > 1000 := by decide
    have e200 : (2 : Int) ^ 200 > 1000 := by decide
    refine ⟨Nat.zero_le _, fun lf hlf => ?_⟩
    have npf := hp.ne hlf
    have hp1 : Purse (upd H lf (.lst [])) p := hp.new hlf
    refine (zr rfl ⟨p, zr rfl ⟨by decide, by decide, hp1, fun d H1 d0 d1 g1 => (zr2 rfl rfl ⟨⟨by decide, by decide⟩, zr rfl (zr2 rfl rfl ⟨c7, ?_⟩)⟩)⟩⟩)
    refine ⟨p, zr rfl ⟨by decide, by decide, g1.2, fun d2 H2 d20 d21 g2 => (zr2 rfl rfl ⟨.inl ⟨by omega, by omega⟩, zr2 rfl rfl ?_⟩)⟩⟩
    rw [e7] at d21
    refine ⟨Nat.zero_le _, fun lb hlb => ?_⟩
    have fr2 := g1.trans g2
    have hlf2 : H2 lf = some (.lst []) := fr2.1 lf _ npf upd_same
    have go0 : Go p H H2 := ((Go.refl hp).new hlf).trans fr2
    refine (zr rfl (zr rfl ⟨by omega, by omega, ?_⟩))
    have wh0 : 1 ≤ 1 + d / 2 * d2 ∧ 1 + d / 2 * d2 ≤ 10000000 := by
      obtain h | h : d / 2 = 0 ∨ d / 2 = 1 := by omega
      · rw [h]; omega
      · rw [h]; omega
    refine for_range (lo := 0) (n := n) (PvM p lf w n H)
      ⟨_, _, _, _, _, _, lb, [], [], rfl, by rw [upd_ne (ne_of_none hlf2 hlb)]; exact hlf2, upd_same, (ne_of_none hlf2 hlb).symm, go0.2.ne hlb, (fun _ z => nomatch z), ⟨(fun _ z => nomatch z), .nil, (fun _ z => nomatch z)⟩, rfl, by simp, wh0.1, (by have := wh0.2; simpa using this), go0.new hlb⟩ ?_ ?_
    · rintro i σ H3 hi ⟨v6, v7, v8, v9, v10, wh, lb, bs, fs, rfl, h3f, h3b, nbf, nbp, h3r, F, lenf, lenb, wh1, wh2, go⟩
      have w2 : 2 ≤ w := by omega
      refine (zr rfl (zr rfl ⟨p, w, rfl, by omega, by omega, go.2, fun one H4 o0 o1 g4 => ?_⟩))
      refine (zr rfl (zr2 rfl rfl (zr rfl (zr rfl (zr2 rfl rfl ⟨p, zr rfl ⟨by omega, by omega, g4.2, fun x H5 x0 x1 g5 => (zr2 rfl rfl (zr rfl (zr2 rfl rfl ⟨by omega, ?_⟩)))⟩⟩)))))
      have ot := oth_ok o0 o1 x0 x1
      refine (zr rfl ⟨p, rfl, g5.2, fun gap H6 gap0 gap1 g6 => ?_⟩)
      have g46 := g4.trans (g5.trans g6)
      have hb6 := g46.1 lb _ nbp h3b
      have hf6 := g46.1 lf _ npf h3f
      refine (zr rfl (zr rfl ⟨lb, zr rfl ⟨.inl (SqL.of hb6), rfl, flat_ints bs, zr rfl (iteO (fun σ H7 => ∃ gp : Int, σ = [some (.ref p), some (.int w), some (.int n), some (.ref lf), some (.int wh), some (.ref lb), some (.int (0 + (i : Int))), some (.int one), some (.int ((one + 1 + x) % w)), some (.int gp), v10, none] ∧ H6 = H7 ∧ 0 ≤ gp ∧ gp ≤ 16000000 ∧ (gp = 0 → one ∉ bs ∧ (one + 1 + x) % w ∉ bs)) ?_ (fun c1 k0 => ?_) (fun c1 k0 => (zr rfl (zr rfl ⟨lb, zr rfl ⟨.inl (SqL.of hb6), rfl, flat_ints bs, zr rfl (iteB (fun c2 => ?_) (fun c2 => ?_))⟩⟩))))⟩⟩))
      rotate_left
      · exact (zr rfl (zr1 rfl (k0 _ _ (zr rfl ⟨rfl, by split <;> omega, by split <;> omega, fun z => by split at z <;> omega⟩))))
      · exact (zr rfl (zr1 rfl (k0 _ _ (zr rfl ⟨rfl, by split <;> omega, by split <;> omega, fun z => by split at z <;> omega⟩))))
      · have c1' : one ∉ bs := of_decide_eq_false (inV_ints.symm.trans c1)
        have c2' : (one + 1 + x) % w ∉ bs := of_decide_eq_false (inV_ints.symm.trans c2)
        exact k0 _ _ ⟨gap, rfl, rfl, by omega, by omega, fun _ => ⟨c1', c2'⟩⟩
      rintro σ H7 ⟨gp, rfl, rfl, gp0, gp1, hg⟩
      refine (zr rfl (zr2 rfl rfl (zr rfl (iteN (fun σ H7 => ∃ ly bz, σ = [some (.ref p), some (.int w), some (.int n), some (.ref lf), some (.int wh), some (.ref ly), some (.int (0 + (i : Int))), some (.int one), some (.int ((one + 1 + x) % w)), some (.int gp), v10, none] ∧ Go p H3 H7 ∧ H7 ly = some (.lst (List.map V.int bz)) ∧ ly ≠ p ∧ bz.length ≤ 2 * i ∧ ∀ z ∈ bs, gp = 0 → z ∈ bz) ?_ (fun c3 k0 => ⟨Nat.zero_le _, fun ln hln => k0 _ _ ⟨ln, [], rfl, g46.new hln, upd_same, g46.2.ne hln, Nat.zero_le _, fun _ _ z => by have := of_decide_eq_true c3; omega⟩⟩) (fun c3 => ⟨lb, bs, rfl, g46, hb6, nbp, lenb, fun _ z _ => z⟩)))))
      rintro σ H7 ⟨ly, bz, rfl, gy, hyb, nyp, leny, hb0⟩
      have h3f' := gy.1 lf _ npf h3f
      refine (zr rfl (zr rfl (zr2 rfl rfl ?_)))
      refine (zr rfl (zr rfl (zr rfl ⟨by show 2 ≤ sizeLine; omega, fun l2 hl2 => ?_⟩)))
      have g2' := gy.new (o := HO.lst [V.int one, V.int ((one + 1 + x) % w)]) hl2
      have hyb2 := same_new (o := HO.lst [V.int one, V.int ((one + 1 + x) % w)]) hl2 _ _ hyb
      have h22 : (upd H7 l2 (HO.lst [V.int one, V.int ((one + 1 + x) % w)])) l2 = some (.lst [V.int one, V.int ((one + 1 + x) % w)]) := upd_same
      generalize upd H7 l2 (HO.lst [V.int one, V.int ((one + 1 + x) % w)]) = H8 at g2' hyb2 h22 ⊢
      refine ⟨ly, l2, zr2 rfl rfl ⟨hyb2, h22, (by simp only [List.length_map, List.length_cons, List.length_nil]; omega), fun l3 hl3 => ?_⟩⟩
      have n3p : l3 ≠ p := g2'.2.ne hl3
      have n3f : l3 ≠ lf := (ne_of_none (g2'.1 lf _ npf h3f) hl3).symm
      have g3' := g2'.new (o := HO.lst (List.map V.int bz ++ [V.int one, V.int ((one + 1 + x) % w)])) hl3
      have h3b' : (upd H8 l3 (HO.lst (List.map V.int bz ++ [V.int one, V.int ((one + 1 + x) % w)]))) l3 = some (.lst (List.map V.int (bz ++ [one, (one + 1 + x) % w]))) := by rw [upd_same, List.map_append]; rfl
      generalize upd H8 l3 (HO.lst (List.map V.int bz ++ [V.int one, V.int ((one + 1 + x) % w)])) = H9 at g3' h3b' ⊢
      refine (zr rfl ⟨p, zr rfl ⟨by decide, by decide, g3'.2, fun d4 H10 d40 d41 g10 => (zr2 rfl rfl ⟨⟨by decide, by decide⟩, zr2 rfl rfl ?_⟩)⟩⟩)
      refine (zr rfl ⟨p, zr rfl ⟨by decide, by decide, g10.2, fun d5 H11 d50 d51 g11 => ⟨rfl, zr rfl (iteN (fun σ H12 => ∃ mm : Int, σ = [some (.ref p), some (.int w), some (.int n), some (.ref lf), some (.int (wh + gp)), some (.ref l3), some (.int (0 + (i : Int))), some (.int one), some (.int ((one + 1 + x) % w)), some (.int gp), some (.int mm), none] ∧ 1 ≤ mm ∧ mm ≤ 99 ∧ Go p H9 H12) ?_ (fun c5 k0 => (zr rfl ⟨p, zr rfl ⟨by decide, by decide, g11.2, fun d6 H12 d60 d61 g12 => (zr2 rfl rfl (k0 _ _ (zr rfl ⟨by omega, by omega, (g10.trans g11).trans g12⟩)))⟩⟩)) (fun c5 => (zr rfl ⟨by omega, by omega, g10.trans g11⟩)))⟩⟩⟩)
      rintro σ H12 ⟨mm, rfl, mm0, mm1, g12⟩
      have gall := g3'.trans g12
      have hz := gall.1 lf _ npf h3f
      refine (zr rfl ⟨.inl ⟨rfl, _, SqL.of hz⟩, zr rfl (zr rfl (zr rfl (zr1 rfl (zr rfl (zr rfl (zr1 rfl (zr rfl ⟨by show 4 ≤ sizeLine; omega, fun t ht => ⟨lf, zr2 rfl rfl ⟨(by rw [upd_ne (ne_of_none hz ht)]; exact hz), (by rw [List.length_map]; omega), ?_⟩⟩⟩)))))))⟩)
      exact PvM.step npf hlf F lenf (bs' := bz ++ [one, (one + 1 + x) % w]) (by simp only [List.length_append, List.length_cons, List.length_nil]; omega) wh1 wh2 hz (g12.1 l3 _ n3p h3b') n3f n3p (fun a ha => gall.tups go.2 _ _ (h3r a ha)) (go.trans gall) ht gp0 gp1 o0 o1 ot.1 ot.2.1 ot.2.2 mm0 mm1 hg (fun z hz1 hz2 => List.mem_append_left _ (hb0 z hz1 hz2)) (by simp) (by simp)
    · rintro σ H3 ⟨v6, v7, v8, v9, v10, wh, lb, bs, fs, rfl, h3f, h3b, nbf, nbp, h3r, F, lenf, lenb, wh1, wh2, go⟩
      have c9 : CPow 10 9 := ⟨by decide, by decide, by decide⟩
      have e9 : (10 : Int) ^ Int.toNat 9 = 1000000000 := by decide
      refine (zr rfl ⟨p, zr rfl ⟨by decide, by decide, go.2, fun d8 H4 _ _ g4 => ⟨rfl, zr rfl (iteA (fun σ H5 => ∃ late : Int, (∃ v6 v7 v8 v9 v10, σ = [some (.ref p), some (.int w), some (.int n), some (.ref lf), some (.int wh), some (.ref lb), v6, v7, v8, v9, v10, some (.int late)]) ∧ Go p H3 H5 ∧ 0 ≤ late ∧ (fs ≠ [] → wh + late ≤ 1000000000)) ?_ (fun c k0 => ?_) (fun c => ⟨0, ⟨_, _, _, _, _, rfl⟩, g4, Int.le_refl _, fun _ => by omega⟩))⟩⟩⟩)
      rotate_left
      · have h4f := g4.1 lf _ npf h3f
        refine (zr rfl ⟨Nat.zero_le _, fun l4 hl4 => ⟨lf, l4, zr rfl ⟨rfl, SqL.of (by rw [upd_ne (ne_of_none h4f hl4)]; exact h4f), SqL.of upd_same, zr rfl (iteB (fun c2 => ?_) (fun c2 => ?_))⟩⟩⟩)
        · exact (zr2 rfl rfl ⟨c9, zr rfl (zr2 rfl rfl (k0 _ _ ⟨_, ⟨_, _, _, _, _, rfl⟩, g4.new hl4, by rw [e9]; omega, fun _ => by rw [e9]; omega⟩))⟩)
        · exact k0 _ _ ⟨0, ⟨_, _, _, _, _, rfl⟩, g4.new hl4, Int.le_refl _, fun _ => by omega⟩
      rintro σ Hz ⟨late, ⟨v6', v7', v8', v9', v10', rfl⟩, gz, L0, L1⟩
      have hz := gz.1 lf _ npf h3f
      refine (zr rfl ⟨lf, fs.map (fun a => (a.1, a.2.row)), rfl, ?_, (by rw [List.length_map]; omega), (fun a ha => ?_), fun D qs hD pq sq => ?_⟩)
      · rw [List.map_map]; exact SqL.of hz
      · obtain ⟨b, hb, rfl⟩ := List.mem_map.mp ha
        exact ⟨gz.tups go.2 _ _ (h3r b hb), by intro z; cases z⟩
      obtain ⟨rs, prs, srs, rfl⟩ := rows_back pq sq
      refine ⟨D, rfl, ⟨_, SqL.of upd_same⟩, ?_⟩
      have lrs : rs.length = n := by rw [prs.length_eq, lenf]
      have hDl : (upd Hz D (HO.lst (List.map (fun a => V.ref a.1) (List.map (fun a : Addr × M4 => (a.1, a.2.row)) rs)))) D = some (.lst (rs.map fun a => V.ref a.1)) := by rw [upd_same, List.map_map]; rfl
      have rD := fun a (ha : a ∈ rs) => (Tups.new (o := HO.lst (List.map (fun a => V.ref a.1) (List.map (fun a : Addr × M4 => (a.1, a.2.row)) rs))) hD) _ _ (gz.tups go.2 _ _ (h3r a (prs.mem_iff.mp ha)))
      have gD := (go.trans gz).new (o := HO.lst (List.map (fun a => V.ref a.1) (List.map (fun a : Addr × M4 => (a.1, a.2.row)) rs))) hD
      refine comp_list (K := K) (a := D) (xs := rs.map fun a => V.ref a.1) (fun i τ acc H5 => ∃ ps : List (Addr × M4), (∃ t0 t1 t2 t3, τ = [t0, t1, t2, t3, some (.int late)]) ∧ acc = (ps.map fun a => V.ref a.1) ∧ (ps.map (·.2)) = ((rs.take i).map fun a => a.2.late late) ∧ RowsAt H5 ps ∧ Same (upd Hz D (HO.lst (List.map (fun a => V.ref a.1) (List.map (fun a : Addr × M4 => (a.1, a.2.row)) rs)))) H5)
        ?_ (by rw [List.length_map]; omega) ?_ ?_ ?_
      · exact ⟨[], ⟨_, _, _, _, rfl⟩, rfl, rfl, (fun _ z => nomatch z), Same.refl _⟩
      · rintro i τ acc H6 ⟨ps, ⟨t0, t1, t2, t3, rfl⟩, rfl, eps, rws, sm⟩
        have := congrArg List.length eps
        rw [List.length_map, List.length_map, List.length_take] at this
        exact ⟨by rw [List.length_map]; omega, sm.seq (SqL.of hDl)⟩
      · rintro i x τ acc H5 C hx ⟨ps, ⟨t0, t1, t2, t3, rfl⟩, rfl, eps, rws, sm⟩ hC
        obtain ⟨r, hr, rfl⟩ := map_get hx
        have hrow := sm _ _ (rD r (List.mem_of_getElem? hr))
        refine (un4 hrow (zr rfl (zr rfl (zr rfl (zr rfl (zr2 rfl rfl (zr rfl ⟨by show 4 ≤ sizeLine; omega, fun t ht => hC _ _ _ ?_⟩)))))))
        refine ⟨ps ++ [(t, r.2.late late)], ⟨_, _, _, _, rfl⟩, by rw [List.map_append]; rfl, by rw [List.map_append, take_snoc hr, List.map_append, eps]; rfl, fun a ha => ?_, sm.trans (same_new ht)⟩
        rcases List.mem_append.mp ha with h | h
        · exact same_new ht _ _ (rws a h)
        · cases List.mem_singleton.mp h
          exact upd_same
      · rintro τ acc H6 ⟨ps, ⟨t0, t1, t2, t3, rfl⟩, rfl, eps, rws, sm⟩ lt hlt
        refine ⟨lt, zr rfl (.inl ⟨SqL.of upd_same, fun t ht => q t ps _ (((gD.same sm).new hlt).new ht) upd_same ((rws.tups (Tups.new hlt)).tups (Tups.new ht)) ?_ ?_⟩)⟩
        · rw [eps, List.length_map, List.take_length]
          exact F.good (by omega) L0 L1 prs srs
        · have := congrArg List.length eps
          rw [List.length_map, List.length_map, List.length_map, List.take_length] at this
          omega
theorem sc__law_book : FnScope ["_law_purse_here", "_law_most_walkers", "_law_most_meetings", "_law_walkers", "_law_most"] ["_law_purse_here", "_law_most_walkers", "_law_most_meetings"] (defScope s__law_book) := ⟨rfl, rfl, rfl, by decide +kernel, rfl, by decide +kernel, by decide +kernel⟩
theorem ok__law_book (T : Tx K mg a) : FnOk P w K mg base CX0 4 a.a__law_book a.d__law_book ["_law_purse_here", "_law_most_walkers", "_law_most_meetings"] (spBook) := by
  have G__law_take := @ok__law_take P w _ _ base _ T
  have G__law_rooms := @ok__law_rooms P w _ _ base _ T
  have G__law_meetings := @ok__law_meetings P w _ _ base _ T
  refine T.F__law_book.ok sc__law_book (fun vs H Q E h => ?_) (fun cdv A outer s H vs Q E hr h => ?_)
  · obtain ⟨p, a, n, rfl, _⟩ := h; rfl
  · have nd := sc__law_book.nd
    have hu := hr.units
    obtain ⟨p, aw, n, rfl, a1, a2, hn, hp, q⟩ := h
    refine ⟨_, (@bl_out _ _ _ (@bl_c _ _ _ _ _ _ (ps_set (i := 3) nd rfl (by first | exact Or.inl rfl | exact Or.inr rfl) (@pe_op _ _ _ _ _ _ _ _ op_add pe_int (pe_call G__law_take (hr.mono (by decide)) rfl T.m__law_take T.k__law_take T.i__law_take .nil pass0 (@pa_out _ _ _ (@pa_c _ _ _ _ _ (pv 0) (@pa_c _ _ _ _ _ (pv 1) pa_n rfl) rfl))))) (@bl_c _ _ _ _ _ _ (ps_set (i := 4) nd rfl (by first | exact Or.inl rfl | exact Or.inr rfl) (pe_callB (call_min2 rfl) (by rfl) T.b_min PyProof.Rows.boot_min (@pa_out _ _ _ (@pa_c _ _ _ _ _ (pv 2) (@pa_c _ _ _ _ _ (pe_call G__law_take (hr.mono (by decide)) rfl T.m__law_take T.k__law_take T.i__law_take .nil pass0 (@pa_out _ _ _ (@pa_c _ _ _ _ _ (pv 0) (@pa_c _ _ _ _ _ (@pe_op _ _ _ _ _ _ _ _ op_add (pv 2) pe_int) pa_n rfl) rfl))) pa_n rfl) rfl)))) (@bl_c _ _ _ _ _ _ (@ps_if _ _ _ _ _ _ _ _ (@pt_cmpR _ _ _ _ _ _ _ _ op_eq (pv 3) pe_int (nomark _)) (@bl_out _ _ _ (@bl_1 _ _ _ (ps_set (i := 4) nd rfl (by first | exact Or.inl rfl | exact Or.inr rfl) pe_int))) pss_nil) (@bl_1 _ _ _ (@ps_ret _ _ _ _ (@pe_tup _ _ _ _ _ (@pa_out _ _ _ (@pa_c _ _ _ _ _ (pe_call G__law_rooms (hr.mono (by decide)) rfl T.m__law_rooms T.k__law_rooms T.i__law_rooms .nil pass0 (@pa_out _ _ _ (@pa_c _ _ _ _ _ (pv 0) (@pa_c _ _ _ _ _ (pv 3) pa_n rfl) rfl))) (@pa_c _ _ _ _ _ (pe_call G__law_meetings (hr.mono (by decide)) rfl T.m__law_meetings T.k__law_meetings T.i__law_meetings .nil pass0 (@pa_out _ _ _ (@pa_c _ _ _ _ _ (pv 0) (@pa_c _ _ _ _ _ (pv 3) (@pa_c _ _ _ _ _ (pv 4) pa_n rfl) rfl) rfl))) pa_n rfl) rfl))))))))), ?_⟩
    have line : 1001 ≤ sizeLine := by rw [sizeLine_eq]; decide
    have e200 : (2 : Int) ^ 200 > 1000 := by decide
    refine (zr rfl (zr rfl ⟨p, aw, rfl, by omega, by omega, hp, fun d H1 d0 d1 g1 => (zr2 rfl rfl ?_)⟩))
    obtain ⟨k, rfl⟩ := Int.eq_ofNat_of_zero_le d0
    refine (zr rfl (zr rfl (zr rfl (zr2 rfl rfl ⟨p, zr rfl ⟨by omega, by omega, g1.2, fun e H2 e0 e1 g2 => (zr1 rfl ?_)⟩⟩))))
    obtain ⟨m, em, hm⟩ : ∃ m : Nat, (if e < (n : Int) then e else (n : Int)) = m ∧ m ≤ n := by
      refine ⟨(if e < (n : Int) then e else (n : Int)).toNat, ?_, ?_⟩ <;> split <;> omega
    refine (zr rfl ⟨rfl, zr rfl (iteN (fun σ H3 => ∃ m : Nat, σ = [some (.ref p), some (.int aw), some (.int n), some (.int (1 + (k : Int))), some (.int m)] ∧ m ≤ n ∧ (m = 0 ∨ 1 ≤ k) ∧ Go p H H3) ?_ (fun c k0 => k0 _ _ ⟨0, rfl, Nat.zero_le _, .inl rfl, g1.trans g2⟩) (fun c => ⟨m, by rw [← em]; rfl, hm, .inr (by
        by_cases hk : k = 0
        · subst hk; exact absurd c (by simp)
        · omega), g1.trans g2⟩))⟩)
    rintro σ H2 ⟨m, rfl, hm, hk, g2⟩
    refine (zr rfl (zr rfl ⟨p, 1 + k, by simp, by omega, g2.2, fun tr rooms H3 g3 h3 l3 r3 => (zr rfl (zr rfl (zr rfl ⟨p, _, m, rfl, by omega, by omega, by omega, g3.2, fun tm ps H4 g4 h4 r4 gd l4 => ⟨by show 2 ≤ sizeLine; omega, fun b hb => ?_⟩⟩)))⟩))
    have h3' := g4.tups g3.2 _ _ h3
    have tn := Tups.new (o := HO.tup [V.ref tr, V.ref tm]) hb
    refine q b rooms tr tm ps _ ((g2.trans (g3.trans g4)).new hb) ⟨upd_same, tn _ _ h3', tn _ _ h4, r4.tups tn⟩ (by omega) (by omega) r3 ?_ (by omega)
    rw [l3]
    simpa using gd
theorem sc__law_far : FnScope ["_law_purse_here", "_law_high"] ["_law_purse_here"] (defScope s__law_far) := ⟨rfl, rfl, rfl, by decide +kernel, rfl, by decide +kernel, by decide +kernel⟩
theorem ok__law_far (T : Tx K mg a) : FnOk P w K mg base CX0 2 a.a__law_far a.d__law_far ["_law_purse_here"] (spFar) := by
  have G__law_take := @ok__law_take P w _ _ base _ T
  refine T.F__law_far.ok sc__law_far (fun vs H Q E h => ?_) (fun cdv A outer s H vs Q E hr h => ?_)
  · obtain ⟨p, rfl, _⟩ := h; rfl
  · have nd := sc__law_far.nd
    have hu := hr.units
    obtain ⟨p, rfl, hp, q⟩ := h
    refine ⟨_, (@bl_out _ _ _ (@bl_c _ _ _ _ _ _ (ps_set (i := 1) nd rfl (by first | exact Or.inl rfl | exact Or.inr rfl) (pe_call G__law_take (hr.mono (by decide)) rfl T.m__law_take T.k__law_take T.i__law_take .nil pass0 (@pa_out _ _ _ (@pa_c _ _ _ _ _ (pv 0) (@pa_c _ _ _ _ _ pe_int pa_n rfl) rfl)))) (@bl_1 _ _ _ (@ps_ret _ _ _ _ (@pe_op _ _ _ _ _ _ _ _ op_mod (@pe_op _ _ _ _ _ _ _ _ op_add (@pe_op _ _ _ _ _ _ _ _ op_mul (pv 1) pe_int) (pe_call G__law_take (hr.mono (by decide)) rfl T.m__law_take T.k__law_take T.i__law_take .nil pass0 (@pa_out _ _ _ (@pa_c _ _ _ _ _ (pv 0) (@pa_c _ _ _ _ _ pe_int pa_n rfl) rfl)))) (@pe_op _ _ _ _ _ _ _ _ op_add (@pe_op _ _ _ _ _ _ _ _ op_pow pe_int pe_int) pe_int)))))), ?_⟩
    refine (zr rfl ⟨p, zr rfl ⟨by decide, by decide, hp, fun d H1 d0 d1 g1 => (zr rfl (zr2 rfl rfl ⟨.inr ⟨by decide, by decide⟩, zr rfl ⟨p, zr rfl ⟨by decide, by decide, g1.2, fun e H2 e0 e1 g2 => (zr2 rfl rfl (zr2 rfl rfl ⟨⟨by decide, by decide, by decide⟩, zr2 rfl rfl (zr2 rfl rfl ⟨(by show (0 : Int) < 10 ^ Int.toNat 9 + 1; decide), ?_⟩)⟩))⟩⟩⟩))⟩⟩)
    have e9 : (10 : Int) ^ Int.toNat 9 + 1 = 1000000001 := by decide
    rw [e9]
    exact q _ _ (Int.emod_nonneg _ (by decide)) (Int.lt_add_one_iff.mp (Int.emod_lt_of_pos _ (by decide))) (g1.trans g2)
theorem sc__law_time : FnScope ["_law_purse_here", "_law_book_here", "_law_later", "_law_way", "_law_at"] ["_law_purse_here", "_law_book_here", "_law_later"] (defScope s__law_time) := ⟨rfl, rfl, rfl, by decide +kernel, rfl, by decide +kernel, by decide +kernel⟩
theorem ok__law_time (T : Tx K mg a) : FnOk P w K mg base CX0 3 a.a__law_time a.d__law_time ["_law_purse_here", "_law_book_here", "_law_later"] (spTimeOf) := by
  have G__law_take := @ok__law_take P w _ _ base _ T
  have G__law_far := @ok__law_far P w _ _ base _ T
  refine T.F__law_time.ok sc__law_time (fun vs H Q E h => ?_) (fun cdv A outer s H vs Q E hr h => ?_)
  · obtain ⟨p, b, j, _, _, _, _, rfl, _⟩ := h; rfl
  · have nd := sc__law_time.nd
    have hu := hr.units
    obtain ⟨p, b, j, rooms, tr, tm, ps, rfl, hj, hb, gd, hp, q⟩ := h
    refine ⟨_, (@bl_out _ _ _ (@bl_c _ _ _ _ _ _ (ps_set (i := 3) nd rfl (by first | exact Or.inl rfl | exact Or.inr rfl) (pe_call G__law_take (hr.mono (by decide)) rfl T.m__law_take T.k__law_take T.i__law_take .nil pass0 (@pa_out _ _ _ (@pa_c _ _ _ _ _ (pv 0) (@pa_c _ _ _ _ _ pe_int pa_n rfl) rfl)))) (@bl_c _ _ _ _ _ _ (@ps_if _ _ _ _ _ _ _ _ (@pt_cmpR _ _ _ _ _ _ _ _ op_eq (pv 3) pe_int (nomark _)) (@bl_out _ _ _ (@bl_1 _ _ _ (@ps_ret _ _ _ _ (@pe_ix _ _ _ _ _ _ _ (ix_list' rfl) (@pe_lst _ _ _ _ (@pa_out _ _ _ (@pa_c _ _ _ _ _ pe_int (@pa_c _ _ _ _ _ (@pe_op _ _ _ _ _ _ _ _ op_pow pe_int pe_int) pa_n rfl) rfl))) (pv 2) (fun _ _ => rfl))))) pss_nil) (@bl_c _ _ _ _ _ _ (@ps_if _ _ _ _ _ _ _ _ (@pt_cmpR _ _ _ _ _ _ _ _ op_eq (pv 3) pe_int (nomark _)) (@bl_out _ _ _ (@bl_1 _ _ _ (@ps_ret _ _ _ _ (pe_call G__law_far (hr.mono (by decide)) rfl T.m__law_far T.k__law_far T.i__law_far .nil pass0 (@pa_out _ _ _ (@pa_c _ _ _ _ _ (pv 0) pa_n rfl)))))) pss_nil) (@bl_c _ _ _ _ _ _ (@ps_if _ _ _ _ _ _ _ _ (@pt_cmpR _ _ _ _ _ _ _ _ (op_eqUnit hu) (@pe_ix _ _ _ _ _ _ _ (ix_tup' rfl) (pv 1) pe_int (fun _ _ => rfl)) (@pe_tup _ _ _ _ _ pa_nil) (nomark _)) (@bl_out _ _ _ (@bl_1 _ _ _ (@ps_ret _ _ _ _ (pe_call G__law_take (hr.mono (by decide)) rfl T.m__law_take T.k__law_take T.i__law_take .nil pass0 (@pa_out _ _ _ (@pa_c _ _ _ _ _ (pv 0) (@pa_c _ _ _ _ _ pe_int pa_n rfl) rfl)))))) pss_nil) (@bl_c _ _ _ _ _ _ (ps_set (i := 4) nd rfl (by first | exact Or.inl rfl | exact Or.inr rfl) (pe_call G__law_take (hr.mono (by decide)) rfl T.m__law_take T.k__law_take T.i__law_take .nil pass0 (@pa_out _ _ _ (@pa_c _ _ _ _ _ (pv 0) (@pa_c _ _ _ _ _ (pe_callB (call_len_seq' rfl) (by rfl) T.b_len PySem.boot_len (@pa_out _ _ _ (@pa_c _ _ _ _ _ (@pe_ix _ _ _ _ _ _ _ (ix_tup' rfl) (pv 1) pe_int (fun _ _ => rfl)) pa_n rfl))) pa_n rfl) rfl)))) (@bl_c _ _ _ _ _ _ (@ps_if _ _ _ _ _ _ _ _ (@pt_cmpR _ _ _ _ _ _ _ _ op_gt (pv 3) pe_int (nomark _)) (@bl_out _ _ _ (@bl_1 _ _ _ (ps_set (i := 4) nd rfl (by first | exact Or.inl rfl | exact Or.inr rfl) (@pe_ix _ _ _ _ _ _ _ (ix_list' rfl) (@pe_lst _ _ _ _ (@pa_out _ _ _ (@pa_c _ _ _ _ _ (@pe_op _ _ _ _ _ _ _ _ op_fdivB (pv 4) pe_int) (@pa_c _ _ _ _ _ (@pe_op _ _ _ _ _ _ _ _ op_fdivB (@pe_op _ _ _ _ _ _ _ _ op_add (pv 4) (pe_callB (call_len_seq' rfl) (by rfl) T.b_len PySem.boot_len (@pa_out _ _ _ (@pa_c _ _ _ _ _ (@pe_ix _ _ _ _ _ _ _ (ix_tup' rfl) (pv 1) pe_int (fun _ _ => rfl)) pa_n rfl)))) pe_int) pa_n rfl) rfl))) (pv 2) (fun _ _ => rfl))))) pss_nil) (@bl_1 _ _ _ (@ps_ret _ _ _ _ (@pe_op _ _ _ _ _ _ _ _ op_sub (@pe_ix _ _ _ _ _ _ _ (ix_tup' rfl) (@pe_ix _ _ _ _ _ _ _ (ix_tup' rfl) (@pe_ix _ _ _ _ _ _ _ (ix_tup' rfl) (pv 1) pe_int (fun _ _ => rfl)) (pv 4) (fun _ _ => rfl)) pe_int (fun _ _ => rfl)) (@pe_ix _ _ _ _ _ _ _ (ix_list' rfl) (@pe_lst _ _ _ _ (@pa_out _ _ _ (@pa_c _ _ _ _ _ pe_int (@pa_c _ _ _ _ _ pe_int pa_n rfl) rfl))) (@pe_op _ _ _ _ _ _ _ _ op_xor (@pe_op _ _ _ _ _ _ _ _ op_fdivB (pe_call G__law_take (hr.mono (by decide)) rfl T.m__law_take T.k__law_take T.i__law_take .nil pass0 (@pa_out _ _ _ (@pa_c _ _ _ _ _ (pv 0) (@pa_c _ _ _ _ _ pe_int pa_n rfl) rfl))) pe_int) (pv 2)) (fun _ _ => rfl)))))))))))), ?_⟩
    have line := line9
    have e200 : (2 : Int) ^ 200 > 10000 := by decide
    have c9 : CPow 10 9 := ⟨by decide, by decide, by decide⟩
    have e9 : (10 : Int) ^ Int.toNat 9 = 1000000000 := by decide
    have l60 := gd.len
    refine (zr rfl ⟨p, zr rfl ⟨by decide, by decide, hp, fun way H1 w0 w1 g1 => ?_⟩⟩)
    refine (zr rfl ⟨rfl, zr rfl (iteD (fun c => ?_) (fun c => (zr rfl ⟨rfl, zr rfl (iteD (fun c => ?_) (fun c => ?_))⟩)))⟩)
    · refine (zr2 rfl rfl ⟨c9, by show 2 ≤ sizeLine; omega, fun l hl => (zr rfl ?_)⟩)
      rcases hj with rfl | rfl
      · exact (ixl upd_same rfl (q _ _ (by omega) (by omega) (g1.new hl)))
      · exact (ixl upd_same rfl (q _ _ (by rw [e9]; decide) (by rw [e9]; decide) (g1.new hl)))
    · exact (zr rfl ⟨p, rfl, g1.2, fun d H2 d0 d1 g2 => q _ _ d0 d1 (g1.trans g2)⟩)
    have hb1 := hb.tups (g1.tups hp)
    refine (zr rfl (ixt hb1.book rfl ⟨Nat.zero_le _, fun u hu2 => ?_⟩))
    have hb2 := hb1.tups (Tups.new (o := HO.tup []) hu2)
    have g2 := g1.new (o := HO.tup []) hu2
    refine ⟨tm, u, zr rfl ⟨rfl, SqT.of hb2.meets, SqT.of upd_same, zr rfl (iteB (fun c2 => ?_) (fun c2 => ?_))⟩⟩
    · exact (zr rfl ⟨p, zr rfl ⟨by decide, by decide, g2.2, fun d H3 d0 d1 g3 => q _ _ d0 (by omega) (g2.trans g3)⟩⟩)
    have lps : 1 ≤ ps.length := by
      cases ps with
      | nil => cases c2
      | cons _ _ => simp
    refine (zr rfl (zr rfl (ixt hb2.book rfl ⟨tm, zr rfl ⟨.inr (SqT.of hb2.meets), p, zr rfl ⟨by rw [List.length_map]; omega, by rw [List.length_map]; omega, g2.2, fun d H3 d0 d1 g3 => ?_⟩⟩⟩)))
    rw [List.length_map] at d1
    have hb3 := hb2.tups (g3.tups g2.2)
    have gg3 := g2.trans g3
    refine (zr rfl (zr2 rfl rfl (zr rfl (iteD (fun c3 => ?_) (fun c3 => ?_)))))
    · refine (zr rfl (zr2 rfl rfl ⟨⟨by decide, by decide⟩, zr rfl (zr rfl (ixt hb3.book rfl ⟨tm, zr rfl ⟨.inr (SqT.of hb3.meets), zr2 rfl rfl (zr2 rfl rfl ⟨⟨by decide, by decide⟩, by show 2 ≤ sizeLine; omega, fun l hl => (zr rfl ?_)⟩)⟩⟩))⟩))
      have gx := gg3.new (o := HO.lst [V.int (d / 2), V.int ((d + ((ps.map fun a => V.ref a.1).length : Int)) / 2)]) hl
      have hx := hb3.tups (Tups.new (o := HO.lst [V.int (d / 2), V.int ((d + ((ps.map fun a => V.ref a.1).length : Int)) / 2)]) hl)
      obtain ⟨k, ek, hk⟩ : ∃ k : Nat, atI [V.int (d / 2), V.int ((d + ((ps.map fun a => V.ref a.1).length : Int)) / 2)] j = some (V.int (k : Int)) ∧ k < ps.length := by
        rcases hj with rfl | rfl
        · obtain ⟨k, hk⟩ := Int.eq_ofNat_of_zero_le (show 0 ≤ d / 2 by omega)
          exact ⟨k, by rw [← hk]; rfl, by omega⟩
        · obtain ⟨k, hk⟩ := Int.eq_ofNat_of_zero_le (show 0 ≤ (d + ((ps.map fun a => V.ref a.1).length : Int)) / 2 by omega)
          refine ⟨k, by rw [← hk]; rfl, ?_⟩
          rw [List.length_map] at hk
          omega
      refine (ixl upd_same ek ?_)
      refine (zr rfl (ixt hx.book rfl (zr rfl (ixt hx.meets (atI_nat (v := V.ref ps[k].1) (by simp [hk])) (ixt (hx.rows _ (List.getElem_mem hk)) rfl ⟨by show 2 ≤ sizeLine; omega, fun l9 hl9 => ?_⟩)))))
      have g9 := gx.new (o := HO.lst [V.int 1, V.int 0]) hl9
      refine (zr rfl ⟨p, zr rfl ⟨by decide, by decide, g9.2, fun e H9 e0 e1 g10 => (zr2 rfl rfl ⟨⟨by decide, by decide⟩, zr rfl (zr2 rfl rfl ?_)⟩)⟩⟩)
      have h9 := g10.1 l9 _ (gx.2.ne hl9) upd_same
      have tb := gd.at (List.getElem_mem hk)
      have bx : (e / 3 = 0 ∨ e / 3 = 1) := by omega
      rcases hj with rfl | rfl <;> rcases bx with bx | bx <;> rw [bx]
      · exact (ixl h9 (by decide : atI [V.int 1, V.int 0] (Builtin.bitXor 0 0) = some (V.int 1)) (zr2 rfl rfl (q _ _ (by omega) (by omega) (g9.trans g10))))
      · exact (ixl h9 (by decide : atI [V.int 1, V.int 0] (Builtin.bitXor 1 0) = some (V.int 0)) (zr2 rfl rfl (q _ _ (by omega) (by omega) (g9.trans g10))))
      · exact (ixl h9 (by decide : atI [V.int 1, V.int 0] (Builtin.bitXor 0 1) = some (V.int 0)) (zr2 rfl rfl (q _ _ (by omega) (by omega) (g9.trans g10))))
      · exact (ixl h9 (by decide : atI [V.int 1, V.int 0] (Builtin.bitXor 1 1) = some (V.int 1)) (zr2 rfl rfl (q _ _ (by omega) (by omega) (g9.trans g10))))
    · have gx := gg3
      have hx := hb3
      obtain ⟨k, rfl⟩ := Int.eq_ofNat_of_zero_le d0
      have hk : k < ps.length := by omega
      refine (zr rfl (ixt hx.book rfl (zr rfl (ixt hx.meets (atI_nat (v := V.ref ps[k].1) (by simp [hk])) (ixt (hx.rows _ (List.getElem_mem hk)) rfl ⟨by show 2 ≤ sizeLine; omega, fun l9 hl9 => ?_⟩)))))
      have g9 := gx.new (o := HO.lst [V.int 1, V.int 0]) hl9
      refine (zr rfl ⟨p, zr rfl ⟨by decide, by decide, g9.2, fun e H9 e0 e1 g10 => (zr2 rfl rfl ⟨⟨by decide, by decide⟩, zr rfl (zr2 rfl rfl ?_)⟩)⟩⟩)
      have h9 := g10.1 l9 _ (gx.2.ne hl9) upd_same
      have tb := gd.at (List.getElem_mem hk)
      have bx : (e / 3 = 0 ∨ e / 3 = 1) := by omega
      rcases hj with rfl | rfl <;> rcases bx with bx | bx <;> rw [bx]
      · exact (ixl h9 (by decide : atI [V.int 1, V.int 0] (Builtin.bitXor 0 0) = some (V.int 1)) (zr2 rfl rfl (q _ _ (by omega) (by omega) (g9.trans g10))))
      · exact (ixl h9 (by decide : atI [V.int 1, V.int 0] (Builtin.bitXor 1 0) = some (V.int 0)) (zr2 rfl rfl (q _ _ (by omega) (by omega) (g9.trans g10))))
      · exact (ixl h9 (by decide : atI [V.int 1, V.int 0] (Builtin.bitXor 0 1) = some (V.int 0)) (zr2 rfl rfl (q _ _ (by omega) (by omega) (g9.trans g10))))
      · exact (ixl h9 (by decide : atI [V.int 1, V.int 0] (Builtin.bitXor 1 1) = some (V.int 1)) (zr2 rfl rfl (q _ _ (by omega) (by omega) (g9.trans g10))))
theorem sc__law_letter : FnScope ["_law_purse_here", "_law_book_here", "_law_walkers", "_law_sender", "_law_wish", "_law_since"] ["_law_purse_here", "_law_book_here"] (defScope s__law_letter) := ⟨rfl, rfl, rfl, by decide +kernel, rfl, by decide +kernel, by decide +kernel⟩
theorem ok__law_letter (T : Tx K mg a) : FnOk P w K mg base CX0 4 a.a__law_letter a.d__law_letter ["_law_purse_here", "_law_book_here"] (spLetter) := by
  have G__law_take := @ok__law_take P w _ _ base _ T
  have G__law_time := @ok__law_time P w _ _ base _ T
  refine T.F__law_letter.ok sc__law_letter (fun vs H Q E h => ?_) (fun cdv A outer s H vs Q E hr h => ?_)
  · obtain ⟨p, b, _, _, _, _, rfl, _⟩ := h; rfl
  · have nd := sc__law_letter.nd
    have hu := hr.units
    obtain ⟨p, b, rooms, tr, tm, ps, rfl, hb, r1, r2, gd, hp, q⟩ := h
    refine ⟨_, (@bl_out _ _ _ (@bl_c _ _ _ _ _ _ (ps_set (i := 2) nd rfl (by first | exact Or.inl rfl | exact Or.inr rfl) (pe_callB (call_len_seq' rfl) (by rfl) T.b_len PySem.boot_len (@pa_out _ _ _ (@pa_c _ _ _ _ _ (@pe_ix _ _ _ _ _ _ _ (ix_tup' rfl) (pv 1) pe_int (fun _ _ => rfl)) pa_n rfl)))) (@bl_c _ _ _ _ _ _ (ps_set (i := 3) nd rfl (by first | exact Or.inl rfl | exact Or.inr rfl) (pe_call G__law_take (hr.mono (by decide)) rfl T.m__law_take T.k__law_take T.i__law_take .nil pass0 (@pa_out _ _ _ (@pa_c _ _ _ _ _ (pv 0) (@pa_c _ _ _ _ _ (pv 2) pa_n rfl) rfl)))) (@bl_c _ _ _ _ _ _ (ps_set (i := 4) nd rfl (by first | exact Or.inl rfl | exact Or.inr rfl) (pe_call G__law_take (hr.mono (by decide)) rfl T.m__law_take T.k__law_take T.i__law_take .nil pass0 (@pa_out _ _ _ (@pa_c _ _ _ _ _ (pv 0) (@pa_c _ _ _ _ _ (pv 2) pa_n rfl) rfl)))) (@bl_c _ _ _ _ _ _ (@ps_if _ _ _ _ _ _ _ _ (@PW.pt _ _ _ (@pw_and _ _ _ _ _ _ _ (@pt_cmpR _ _ _ _ _ _ _ _ op_eq (pv 3) (pv 4) (nomark _)) (@pw_and1 _ _ _ _ (@pt_cmpR _ _ _ _ _ _ _ _ op_gt (pe_call G__law_take (hr.mono (by decide)) rfl T.m__law_take T.k__law_take T.i__law_take .nil pass0 (@pa_out _ _ _ (@pa_c _ _ _ _ _ (pv 0) (@pa_c _ _ _ _ _ pe_int pa_n rfl) rfl))) pe_int (nomark _))))) (@bl_out _ _ _ (@bl_1 _ _ _ (ps_set (i := 4) nd rfl (by first | exact Or.inl rfl | exact Or.inr rfl) (@pe_op _ _ _ _ _ _ _ _ op_mod (@pe_op _ _ _ _ _ _ _ _ op_add (pv 4) pe_int) (pv 2))))) pss_nil) (@bl_c _ _ _ _ _ _ (ps_set (i := 5) nd rfl (by first | exact Or.inl rfl | exact Or.inr rfl) (pe_call G__law_time (hr.mono (by decide)) rfl T.m__law_time T.k__law_time T.i__law_time .nil pass0 (@pa_out _ _ _ (@pa_c _ _ _ _ _ (pv 0) (@pa_c _ _ _ _ _ (pv 1) (@pa_c _ _ _ _ _ pe_int pa_n rfl) rfl) rfl)))) (@bl_1 _ _ _ (@ps_ret _ _ _ _ (@pe_tup _ _ _ _ _ (@pa_out _ _ _ (@pa_c _ _ _ _ _ (pv 3) (@pa_c _ _ _ _ _ (pv 5) (@pa_c _ _ _ _ _ (pv 4) (@pa_c _ _ _ _ _ (pe_call G__law_time (hr.mono (by decide)) rfl T.m__law_time T.k__law_time T.i__law_time .nil pass0 (@pa_out _ _ _ (@pa_c _ _ _ _ _ (pv 0) (@pa_c _ _ _ _ _ (pv 1) (@pa_c _ _ _ _ _ pe_int pa_n rfl) rfl) rfl))) pa_n rfl) rfl) rfl) rfl))))))))))), ?_⟩
    have line := line9
    have e200 : (2 : Int) ^ 200 > 10000 := by decide
    have rl : (rooms.map V.int).length = rooms.length := List.length_map _
    have fin : ∀ s w : Int, 0 ≤ s → s < rooms.length → 0 ≤ w → w < rooms.length → ∀ H3, Go p H H3 → spTimeOf [.ref p, .ref b, .int 0] H3 (fun x H4 => spTimeOf [.ref p, .ref b, .int 1] H4 (fun y H5 => 4 ≤ sizeLine ∧ ∀ t, H5 t = none → Q (.ref t) (upd H5 t (.tup [.int s, x, .int w, y]))) E0) E0 := by
      intro s w s0 s1 w0 w1 H3 g3
      have hb3 := hb.tups (g3.tups hp)
      refine (ex7 p b 0 rooms tr tm ps ⟨rfl, .inl rfl, hb3, gd, g3.2, fun x H4 x0 x1 g4 => ?_⟩)
      exact (ex7 p b 1 rooms tr tm ps ⟨rfl, .inr rfl, hb3.tups (g4.tups g3.2), gd, g4.2, fun y H5 y0 y1 g5 => ⟨by omega, fun t ht => q t s x w y _ ((g3.trans (g4.trans g5)).new ht) upd_same s0 s1 w0 w1 x0 x1 y0 y1⟩⟩)
    refine (zr rfl (ixt hb.book rfl ⟨tr, zr rfl ⟨.inr (SqT.of hb.rooms), ?_⟩⟩))
    refine (zr rfl (zr rfl ⟨p, zr rfl ⟨by omega, by omega, hp, fun s H1 s0 s1 g1 => (zr rfl (zr rfl ⟨p, zr rfl ⟨by omega, by omega, g1.2, fun w H2 w0 w1 g2 => ?_⟩⟩))⟩⟩))
    refine (zr rfl (zr rfl ⟨rfl, zr rfl (iteD (fun c => ?_) (fun c => iteB0 rfl ?_))⟩))
    · refine (zr rfl ⟨p, zr rfl ⟨by decide, by decide, g2.2, fun e H3 e0 e1 g3 => (zr2 rfl rfl (zr rfl (iteD (fun c2 => ?_) (fun c2 => ?_))))⟩⟩)
      · refine (zr rfl (zr2 rfl rfl (zr rfl (zr2 rfl rfl ⟨by omega, ?_⟩))))
        have := fin s ((w + 1) % (((rooms.map V.int).length : Nat) : Int)) s0 (by omega) (Int.emod_nonneg _ (by omega)) (by have := Int.emod_lt_of_pos (w + 1) (show (0 : Int) < ((rooms.map V.int).length : Nat) by omega); omega) H3 (g1.trans (g2.trans g3))
        simp only [gTup, gCons, gNil, tYes, tBM, rAppend, gSub, tAugS, ipI, rU, rIxL, rIxT, rSetL, tSeq, tAsg, tIfS, tRet, tOp, tUn, rI0, rI, tVar, tC, gName, tCall, tCB, tCons, tNil, tAndV, tOrV, tNotV, tNext, tTest, tB, tNot, tAnd, tOr, tDrop, rEq, rNe, scal, tChain, tTup, tLst, tSl, tNoPart, tPart, cxOf, L2.start, List.map_cons, List.map_nil, List.length_cons, List.length_nil, Nat.reduceAdd, Nat.reduceSub, List.replicate, List.cons_append, List.nil_append, List.append_nil, List.getElem?_cons_zero, List.getElem?_cons_succ, Option.some.injEq, exists_eq_left', exists_eq_left, exists_and_left, and_assoc, V.int.injEq, V.ty.injEq, V.str.injEq, V.bl.injEq, V.ref.injEq, List.cons.injEq, and_true, true_and, List.set_cons_zero, List.set_cons_succ]
        exact this
      · have := fin s w s0 (by omega) w0 (by omega) H3 (g1.trans (g2.trans g3))
        simp only [gTup, gCons, gNil, tYes, tBM, rAppend, gSub, tAugS, ipI, rU, rIxL, rIxT, rSetL, tSeq, tAsg, tIfS, tRet, tOp, tUn, rI0, rI, tVar, tC, gName, tCall, tCB, tCons, tNil, tAndV, tOrV, tNotV, tNext, tTest, tB, tNot, tAnd, tOr, tDrop, rEq, rNe, scal, tChain, tTup, tLst, tSl, tNoPart, tPart, cxOf, L2.start, List.map_cons, List.map_nil, List.length_cons, List.length_nil, Nat.reduceAdd, Nat.reduceSub, List.replicate, List.cons_append, List.nil_append, List.append_nil, List.getElem?_cons_zero, List.getElem?_cons_succ, Option.some.injEq, exists_eq_left', exists_eq_left, exists_and_left, and_assoc, V.int.injEq, V.ty.injEq, V.str.injEq, V.bl.injEq, V.ref.injEq, List.cons.injEq, and_true, true_and, List.set_cons_zero, List.set_cons_succ]
        exact this
    · have := fin s w s0 (by omega) w0 (by omega) H2 (g1.trans g2)
      simp only [gTup, gCons, gNil, tYes, tBM, rAppend, gSub, tAugS, ipI, rU, rIxL, rIxT, rSetL, tSeq, tAsg, tIfS, tRet, tOp, tUn, rI0, rI, tVar, tC, gName, tCall, tCB, tCons, tNil, tAndV, tOrV, tNotV, tNext, tTest, tB, tNot, tAnd, tOr, tDrop, rEq, rNe, scal, tChain, tTup, tLst, tSl, tNoPart, tPart, cxOf, L2.start, List.map_cons, List.map_nil, List.length_cons, List.length_nil, Nat.reduceAdd, Nat.reduceSub, List.replicate, List.cons_append, List.nil_append, List.append_nil, List.getElem?_cons_zero, List.getElem?_cons_succ, Option.some.injEq, exists_eq_left', exists_eq_left, exists_and_left, and_assoc, V.int.injEq, V.ty.injEq, V.str.injEq, V.bl.injEq, V.ref.injEq, List.cons.injEq, and_true, true_and, List.set_cons_zero, List.set_cons_succ]
      exact this
theorem sc_show_all : FnScope ["names", "book", "letters", "rooms", "meetings", "rows"] ["names", "book", "letters"] (defScope s_show_all) := ⟨rfl, rfl, rfl, by decide +kernel, rfl, by decide +kernel, by decide +kernel⟩
theorem ok_show_all (T : Tx K mg a) : FnOk P w K mg base CX0 1 a.a_show_all a.d_show_all ["names", "book", "letters"] (spShow) := by
  refine T.F_show_all.ok sc_show_all (fun vs H Q E h => ?_) (fun cdv A outer s H vs Q E hr h => ?_)
  · obtain ⟨_, _, _, _, _, _, _, _, _, rfl, _⟩ := h; rfl
  · have nd := sc_show_all.nd
    have hu := hr.units
    obtain ⟨nl, b, ll, ns, ls, rooms, tr, tm, ps, rfl, hn, hb, ln, r12, n100, rb, gd, hll, l41, lb, q⟩ := h
    refine ⟨_, (@bl_out _ _ _ (@bl_c _ _ _ _ _ _ (ps_asg (pv 1) (pg_tup' (n := 2) rfl rfl (pgs_cons (pg_name (i := 3) nd rfl (by first | exact Or.inl rfl | exact Or.inr rfl)) (pgs_cons (pg_name (i := 4) nd rfl (by first | exact Or.inl rfl | exact Or.inr rfl)) pgs_nil)))) (@bl_c _ _ _ _ _ _ (ps_setComp (ix := 5) nd rfl (by first | exact Or.inl rfl | exact Or.inr rfl) (own := ["name", "room"]) (caps := []) rfl (show CompScope ["name", "room"] [] ["names", "book", "letters", "rooms", "meetings", "rows"] (defScope s_show_all) _ from ⟨rfl, by decide +kernel, by decide +kernel, by decide +kernel, by decide +kernel⟩) (pi_zipM rfl rfl T.b_zip (@pa_out _ _ _ (@pa_c _ _ _ _ _ (pv 0) (@pa_c _ _ _ _ _ (pv 3) pa_n rfl) rfl))) (fun _ _ _ _ => (pg_tup' (n := 2) rfl rfl (pgs_cons (pg_name (i := 0) (show List.Nodup (["name", "room"] : List Str) from by decide +kernel) rfl (by first | exact Or.inl rfl | exact Or.inr rfl)) (pgs_cons (pg_name (i := 1) (show List.Nodup (["name", "room"] : List Str) from by decide +kernel) rfl (by first | exact Or.inl rfl | exact Or.inr rfl)) pgs_nil)))) (fun _ _ _ _ => pts_nil) (fun _ _ _ _ => (pe_fstr (pj_c pe_str (pj_c (pe_fmt (pv 0)) (pj_c pe_str (pj_c (pe_fmt (pv 1)) pj_nil))))))) (@bl_c _ _ _ _ _ _ (ps_aug (i := 5) nd rfl (by first | exact Or.inl rfl | exact Or.inr rfl) (pe_comp (own := ["one", "other", "when", "many"]) (caps := [0]) rfl (show CompScope ["one", "other", "when", "many"] [0] ["names", "book", "letters", "rooms", "meetings", "rows"] (defScope s_show_all) _ from ⟨rfl, by decide +kernel, by decide +kernel, by decide +kernel, by decide +kernel⟩) (@pi_tup'' _ _ _ _ _ rfl (pv 4)) (fun _ _ _ _ => (pg_tup' (n := 4) rfl rfl (pgs_cons (pg_name (i := 0) (show List.Nodup (["one", "other", "when", "many", "names"] : List Str) from by decide +kernel) rfl (by first | exact Or.inl rfl | exact Or.inr rfl)) (pgs_cons (pg_name (i := 1) (show List.Nodup (["one", "other", "when", "many", "names"] : List Str) from by decide +kernel) rfl (by first | exact Or.inl rfl | exact Or.inr rfl)) (pgs_cons (pg_name (i := 2) (show List.Nodup (["one", "other", "when", "many", "names"] : List Str) from by decide +kernel) rfl (by first | exact Or.inl rfl | exact Or.inr rfl)) (pgs_cons (pg_name (i := 3) (show List.Nodup (["one", "other", "when", "many", "names"] : List Str) from by decide +kernel) rfl (by first | exact Or.inl rfl | exact Or.inr rfl)) pgs_nil)))))) (fun _ _ _ _ => pts_nil) (fun _ _ _ _ => (pe_fstr (pj_c pe_str (pj_c (pe_fmt (@pe_ix _ _ _ _ _ _ _ (ix_list' rfl) (pv 4) (pv 0) (fun _ _ => rfl))) (pj_c pe_str (pj_c (pe_fmt (@pe_ix _ _ _ _ _ _ _ (ix_list' rfl) (pv 4) (pv 1) (fun _ _ => rfl))) (pj_c pe_str (pj_c (pe_fmt (pv 2)) (pj_c pe_str (pj_c (pe_fmt (pv 3)) pj_nil))))))))))) ip_cat) (@bl_c _ _ _ _ _ _ (ps_aug (i := 5) nd rfl (by first | exact Or.inl rfl | exact Or.inr rfl) (pe_comp (own := ["sender", "since", "wish", "last"]) (caps := [0]) rfl (show CompScope ["sender", "since", "wish", "last"] [0] ["names", "book", "letters", "rooms", "meetings", "rows"] (defScope s_show_all) _ from ⟨rfl, by decide +kernel, by decide +kernel, by decide +kernel, by decide +kernel⟩) (@pi_list' _ _ _ _ _ rfl (pv 2)) (fun _ _ _ _ => (pg_tup' (n := 4) rfl rfl (pgs_cons (pg_name (i := 0) (show List.Nodup (["sender", "since", "wish", "last", "names"] : List Str) from by decide +kernel) rfl (by first | exact Or.inl rfl | exact Or.inr rfl)) (pgs_cons (pg_name (i := 1) (show List.Nodup (["sender", "since", "wish", "last", "names"] : List Str) from by decide +kernel) rfl (by first | exact Or.inl rfl | exact Or.inr rfl)) (pgs_cons (pg_name (i := 2) (show List.Nodup (["sender", "since", "wish", "last", "names"] : List Str) from by decide +kernel) rfl (by first | exact Or.inl rfl | exact Or.inr rfl)) (pgs_cons (pg_name (i := 3) (show List.Nodup (["sender", "since", "wish", "last", "names"] : List Str) from by decide +kernel) rfl (by first | exact Or.inl rfl | exact Or.inr rfl)) pgs_nil)))))) (fun _ _ _ _ => pts_nil) (fun _ _ _ _ => (pe_fstr (pj_c pe_str (pj_c (pe_fmt (@pe_ix _ _ _ _ _ _ _ (ix_list' rfl) (pv 4) (pv 0) (fun _ _ => rfl))) (pj_c pe_str (pj_c (pe_fmt (pv 1)) (pj_c pe_str (pj_c (pe_fmt (@pe_ix _ _ _ _ _ _ _ (ix_list' rfl) (pv 4) (pv 2) (fun _ _ => rfl))) (pj_c pe_str (pj_c (pe_fmt (pv 3)) pj_nil))))))))))) ip_cat) (@bl_1 _ _ _ (@ps_ret _ _ _ _ (pv 5)))))))), ?_⟩
    have line : 100002 ≤ sizeLine := by rw [sizeLine_eq]; decide
    have zE : Str.empty.length = 0 := rfl
    have z1 : (Str.ofString "walker ").length = 7 := by decide +kernel
    have z2 : (Str.ofString "meet ").length = 5 := by decide +kernel
    have z3 : (Str.ofString "letter ").length = 7 := by decide +kernel
    have z4 : (Str.ofString " ").length = 1 := by decide +kernel
    have z5 : (Str.ofString "meet").length = 4 := by decide +kernel
    have z6 : (Str.ofString "letter").length = 6 := by decide +kernel
    have rm : ∀ {r : Int}, r ∈ rooms → -(10 ^ 12) ≤ r ∧ r ≤ 10 ^ 12 := fun {r} hr => by have := rb r hr; omega
    have nmb : ∀ {i : Int}, 0 ≤ i → i < rooms.length → atI (ns.map V.str) i = some (V.str (nm ns i)) ∧ (nm ns i).length ≤ 100 := fun {i} h0 h1 => by
      have := nm_at (ns := ns) h0 (by omega)
      exact ⟨this.1, n100 _ this.2⟩
    have n60 := gd.len
    refine ⟨_, rfl, b, _, rfl, SqT.of hb.book, rfl, _, _, rfl, _, _, rfl, rfl, ?_⟩
    refine ⟨_, rfl, _, rfl, nl, tr, rfl, ⟨_, SqL.of hn⟩, ⟨_, SqT.of hb.rooms⟩, ?_⟩
    refine comp_zipM (K := K) (a := nl) (b := tr) (xs := ns.map V.str) (ys := rooms.map V.int) (by rw [List.length_map, List.length_map, ln]) (fun i τ acc H5 => (∃ t0 t1, τ = [t0, t1]) ∧ acc = (((ns.zip rooms).take i).map rowW).map V.str ∧ Same H H5) ⟨⟨_, _, rfl⟩, rfl, Same.refl _⟩ (by rw [List.length_map]; omega) ?_ ?_ ?_
    · rintro i τ acc H5 ⟨_, rfl, s5⟩
      exact ⟨by rw [List.length_map, List.length_map, List.length_take]; omega, SqL.of (s5 _ _ hn), SqT.of (s5 _ _ hb.rooms)⟩
    · rintro i u v q0 τ acc H5 C hu hv hq ⟨⟨t0, t1, rfl⟩, rfl, s5⟩ hC
      obtain ⟨x, hx, rfl⟩ := map_get hu
      obtain ⟨r, hr, rfl⟩ := map_get hv
      have hz : (ns.zip rooms)[i]? = some (x, r) := List.getElem?_zip_eq_some.mpr ⟨hx, hr⟩
      have lx := n100 x (List.mem_of_getElem? hx)
      have rb1 := rm (List.mem_of_getElem? hr)
      have lr := tx_len rb1.1 rb1.2
      have kq : upd H5 q0 (HO.tup [V.str x, V.int r]) q0 = some (.tup [V.str x, V.int r]) := upd_same
      refine ⟨q0, _, rfl, SqT.of kq, rfl, _, _, rfl, _, _, rfl, rfl, _, rfl, (by simp only [app_len, zE, z1, z2, z3, z4]; omega), _, rfl, x, .inl ⟨rfl, by omega⟩, _, rfl, (by simp only [app_len, zE, z1, z2, z3, z4]; omega), _, rfl, (by simp only [app_len, zE, z1, z2, z3, z4]; omega), _, rfl, tx r, fmt_int rb1.1 rb1.2, _, rfl, (by simp only [app_len, zE, z1, z2, z3, z4]; omega), (by simp only [app_len, zE, z1, z2, z3, z4]; omega), hC _ _ _ ⟨⟨_, _, rfl⟩, ?_, s5.trans (same_new hq)⟩⟩
      rw [take_snoc hz, List.map_append, List.map_append, emp_app]; rfl
    rintro τ acc H5 ⟨_, e, s5⟩
    rw [List.length_map, List.take_of_length_le (by rw [List.length_zip]; omega)] at e
    subst e
    intro p hp
    have s6 := s5.trans (same_new (o := HO.lst (((ns.zip rooms).map rowW).map V.str)) hp)
    have fp : H p = none := s5.free hp
    have kp : upd H5 p (HO.lst (((ns.zip rooms).map rowW).map V.str)) p = some (.lst (((ns.zip rooms).map rowW).map V.str)) := upd_same
    generalize upd H5 p (HO.lst (((ns.zip rooms).map rowW).map V.str)) = H6 at s6 kp ⊢
    clear hp s5
    refine ⟨_, rfl, _, rfl, tm, rfl, ⟨_, SqT.of (hb.same s6).meets⟩, ?_⟩
    refine comp_tup (K := K) (a := tm) (xs := ps.map fun a => V.ref a.1) (fun i τ acc H7 => (∃ t0 t1 t2 t3, τ = [t0, t1, t2, t3, some (.ref nl)]) ∧ acc = (((ps.map (·.2)).take i).map (rowM ns)).map V.str ∧ Same H6 H7) ⟨⟨_, _, _, _, rfl⟩, rfl, Same.refl _⟩ (by rw [List.length_map]; omega) ?_ ?_ ?_
    · rintro i τ acc H7 ⟨_, rfl, s7⟩
      exact ⟨by rw [List.length_map, List.length_map, List.length_take]; omega, SqT.of (s7 _ _ (hb.same s6).meets)⟩
    · rintro i v τ acc H7 C hv ⟨⟨t0, t1, t2, t3, rfl⟩, rfl, s7⟩ hC
      obtain ⟨p0, hp0, rfl⟩ := map_get hv
      have ge := gd.each p0.2 (List.mem_map.mpr ⟨p0, List.mem_of_getElem? hp0, rfl⟩)
      have hM : (ps.map (·.2))[i]? = some p0.2 := by rw [List.getElem?_map, hp0]; rfl
      obtain ⟨a1, l1⟩ := nmb (i := p0.2.lo) (by omega) (by omega)
      obtain ⟨a2, l2⟩ := nmb (i := p0.2.hi) (by omega) (by omega)
      have b1 : -(10 ^ 12) ≤ p0.2.t ∧ p0.2.t ≤ 10 ^ 12 := by omega
      have b2 : -(10 ^ 12) ≤ p0.2.m ∧ p0.2.m ≤ 10 ^ 12 := by omega
      have t1 := tx_len b1.1 b1.2
      have t2 := tx_len b2.1 b2.2
      have hrow := (hb.same (s6.trans s7)).rows p0 (List.mem_of_getElem? hp0)
      have hn7 := (s6.trans s7) _ _ hn
      refine ⟨p0.1, _, rfl, SqT.of hrow, rfl, _, _, rfl, _, _, rfl, _, _, rfl, _, _, rfl, rfl, _, rfl, (by simp only [app_len, zE, z1, z2, z3, z4]; omega), _, rfl, _, rfl, nl, _, _, _, rfl, rfl, SqL.of hn7, a1, _, .inl ⟨rfl, by omega⟩, _, rfl, (by simp only [app_len, zE, z1, z2, z3, z4]; omega), _, rfl, (by simp only [app_len, zE, z1, z2, z3, z4]; omega), _, rfl, _, rfl, nl, _, _, _, rfl, rfl, SqL.of hn7, a2, _, .inl ⟨rfl, by omega⟩, _, rfl, (by simp only [app_len, zE, z1, z2, z3, z4]; omega), _, rfl, (by simp only [app_len, zE, z1, z2, z3, z4]; omega), _, rfl, tx p0.2.t, fmt_int b1.1 b1.2, _, rfl, (by simp only [app_len, zE, z1, z2, z3, z4]; omega), _, rfl, (by simp only [app_len, zE, z1, z2, z3, z4]; omega), _, rfl, tx p0.2.m, fmt_int b2.1 b2.2, _, rfl, (by simp only [app_len, zE, z1, z2, z3, z4]; omega), (by simp only [app_len, zE, z1, z2, z3, z4]; omega), hC _ _ _ ⟨⟨_, _, _, _, rfl⟩, ?_, s7⟩⟩
      rw [take_snoc hM, List.map_append, List.map_append, emp_app]; rfl
    rintro τ acc H7 ⟨_, e, s7⟩
    rw [List.length_map, List.take_of_length_le (by rw [List.length_map]; omega)] at e
    subst e
    intro p2 hp2
    have s8 := (same_new (o := HO.lst (((ps.map (·.2)).map (rowM ns)).map V.str)) hp2)
    have kp2 : upd H7 p2 (HO.lst (((ps.map (·.2)).map (rowM ns)).map V.str)) p2 = some (.lst (((ps.map (·.2)).map (rowM ns)).map V.str)) := upd_same
    have s68 := s7.trans s8
    generalize upd H7 p2 (HO.lst (((ps.map (·.2)).map (rowM ns)).map V.str)) = H8 at s8 kp2 s68 ⊢
    have lz : (ns.zip rooms).length ≤ 12 := by rw [List.length_zip]; omega
    refine ⟨p, p2, _, _, rfl, rfl, s68 _ _ kp, kp2, (by rw [List.length_map, List.length_map, List.length_map, List.length_map, List.length_map]; omega), ?_⟩
    have b9 : But p H8 (upd H8 p (HO.lst (((ns.zip rooms).map rowW).map V.str ++ ((ps.map (·.2)).map (rowM ns)).map V.str))) := But.set
    have kp9 : upd H8 p (HO.lst (((ns.zip rooms).map rowW).map V.str ++ ((ps.map (·.2)).map (rowM ns)).map V.str)) p = some (.lst ((((ns.zip rooms).map rowW) ++ ((ps.map (·.2)).map (rowM ns))).map V.str)) := by rw [upd_same, List.map_append]
    have s9 : Same H (upd H8 p (HO.lst (((ns.zip rooms).map rowW).map V.str ++ ((ps.map (·.2)).map (rowM ns)).map V.str))) := But.same fp (s6.trans s68) b9
    generalize upd H8 p (HO.lst (((ns.zip rooms).map rowW).map V.str ++ ((ps.map (·.2)).map (rowM ns)).map V.str)) = H9 at b9 kp9 s9 ⊢
    clear s68 kp2 s8 hp2 s7 b9 kp s6
    have hl9 := hll.same s9
    refine ⟨_, rfl, _, rfl, ll, rfl, ⟨_, SqL.of hl9.1⟩, ?_⟩
    refine comp_list (K := K) (a := ll) (xs := ls.map fun a => V.ref a.1) (fun i τ acc H7 => (∃ t0 t1 t2 t3, τ = [t0, t1, t2, t3, some (.ref nl)]) ∧ acc = (((ls.map (·.2)).take i).map (rowL ns)).map V.str ∧ Same H9 H7) ⟨⟨_, _, _, _, rfl⟩, rfl, Same.refl _⟩ (by rw [List.length_map]; omega) ?_ ?_ ?_
    · rintro i τ acc H7 ⟨_, rfl, s7⟩
      exact ⟨by rw [List.length_map, List.length_map, List.length_take]; omega, SqL.of (s7 _ _ hl9.1)⟩
    · rintro i v τ acc H7 C hv ⟨⟨t0, t1, t2, t3, rfl⟩, rfl, s7⟩ hC
      obtain ⟨L, hL, rfl⟩ := map_get hv
      have Lm := List.mem_of_getElem? hL
      obtain ⟨c1, c2, c3, c4, c5, c6⟩ := lb L Lm
      have hM : (ls.map (·.2))[i]? = some L.2 := by rw [List.getElem?_map, hL]; rfl
      obtain ⟨a1, l1⟩ := nmb (i := (L.2.s : Int)) (by omega) (by omega)
      obtain ⟨a2, l2⟩ := nmb (i := (L.2.w : Int)) (by omega) (by omega)
      have t1 := tx_len c3 c4
      have t2 := tx_len c5 c6
      have hrow : H7 L.1 = some (.tup [V.int (L.2.s : Int), V.int L.2.a, V.int (L.2.w : Int), V.int L.2.z]) := s7 _ _ (hl9.2 L Lm)
      have hn7 := (s9.trans s7) _ _ hn
      refine ⟨L.1, _, rfl, SqT.of hrow, rfl, _, _, rfl, _, _, rfl, _, _, rfl, _, _, rfl, rfl, _, rfl, (by simp only [app_len, zE, z1, z2, z3, z4]; omega), _, rfl, _, rfl, nl, _, _, _, rfl, rfl, SqL.of hn7, a1, _, .inl ⟨rfl, by omega⟩, _, rfl, (by simp only [app_len, zE, z1, z2, z3, z4]; omega), _, rfl, (by simp only [app_len, zE, z1, z2, z3, z4]; omega), _, rfl, tx L.2.a, fmt_int c3 c4, _, rfl, (by simp only [app_len, zE, z1, z2, z3, z4]; omega), _, rfl, (by simp only [app_len, zE, z1, z2, z3, z4]; omega), _, rfl, _, rfl, nl, _, _, _, rfl, rfl, SqL.of hn7, a2, _, .inl ⟨rfl, by omega⟩, _, rfl, (by simp only [app_len, zE, z1, z2, z3, z4]; omega), _, rfl, (by simp only [app_len, zE, z1, z2, z3, z4]; omega), _, rfl, tx L.2.z, fmt_int c5 c6, _, rfl, (by simp only [app_len, zE, z1, z2, z3, z4]; omega), (by simp only [app_len, zE, z1, z2, z3, z4]; omega), hC _ _ _ ⟨⟨_, _, _, _, rfl⟩, ?_, s7⟩⟩
      rw [take_snoc hM, List.map_append, List.map_append, emp_app]; rfl
    rintro τ acc H7 ⟨_, e, s7⟩
    rw [List.length_map, List.take_of_length_le (by rw [List.length_map]; omega)] at e
    subst e
    intro p2 hp2
    have s8 := (same_new (o := HO.lst (((ls.map (·.2)).map (rowL ns)).map V.str)) hp2)
    have kp2 : upd H7 p2 (HO.lst (((ls.map (·.2)).map (rowL ns)).map V.str)) p2 = some (.lst (((ls.map (·.2)).map (rowL ns)).map V.str)) := upd_same
    have s68 := s7.trans s8
    generalize upd H7 p2 (HO.lst (((ls.map (·.2)).map (rowL ns)).map V.str)) = H8 at s8 kp2 s68 ⊢
    refine ⟨p, p2, _, _, rfl, rfl, s68 _ _ kp9, kp2, (by rw [List.length_map, List.length_append, List.length_map, List.length_map, List.length_map, List.length_map, List.length_map, List.length_map]; omega), ?_⟩
    refine ⟨_, rfl, q p _ (But.same fp (s9.trans s68) But.set) fp ?_⟩
    rw [upd_same]; unfold allRows; rw [List.map_append (l₁ := List.map rowW (ns.zip rooms) ++ List.map (rowM ns) (List.map (fun y => y.2) ps))]
theorem sc__law_names : FnScope ["_law_purse_here", "_law_many", "_law_letters", "_law_size", "_law_place", "_law_base", "_law_stride", "_law_far_on", "_law_found", "_law_k", "_law_signs", "_law_word", "_law_at"] ["_law_purse_here", "_law_many"] (defScope s__law_names) := ⟨rfl, rfl, rfl, by decide +kernel, rfl, by decide +kernel, by decide +kernel⟩
theorem ok__law_names (T : Tx K mg a) : FnOk P w K mg base CX0 2 a.a__law_names a.d__law_names ["_law_purse_here", "_law_many"] (spNames) := by
  have G__law_take := @ok__law_take P w _ _ base _ T
  refine T.F__law_names.ok sc__law_names (fun vs H Q E h => ?_) (fun cdv A outer s H vs Q E hr h => ?_)
  · obtain ⟨_, _, rfl, _⟩ := h; rfl
  · have nd := sc__law_names.nd
    have hu := hr.units
    obtain ⟨p, n, rfl, n1, n12, pu, q⟩ := h
    refine ⟨_, (@bl_out _ _ _ (@bl_c _ _ _ _ _ _ (ps_set (i := 2) nd rfl (by first | exact Or.inl rfl | exact Or.inr rfl) pe_str) (@bl_c _ _ _ _ _ _ (ps_set (i := 3) nd rfl (by first | exact Or.inl rfl | exact Or.inr rfl) (@pe_op _ _ _ _ _ _ _ _ op_add pe_int (pe_call G__law_take (hr.mono (by decide)) rfl T.m__law_take T.k__law_take T.i__law_take .nil pass0 (@pa_out _ _ _ (@pa_c _ _ _ _ _ (pv 0) (@pa_c _ _ _ _ _ pe_int pa_n rfl) rfl))))) (@bl_c _ _ _ _ _ _ (ps_set (i := 4) nd rfl (by first | exact Or.inl rfl | exact Or.inr rfl) (pe_call G__law_take (hr.mono (by decide)) rfl T.m__law_take T.k__law_take T.i__law_take .nil pass0 (@pa_out _ _ _ (@pa_c _ _ _ _ _ (pv 0) (@pa_c _ _ _ _ _ (pv 3) pa_n rfl) rfl)))) (@bl_c _ _ _ _ _ _ (ps_set (i := 5) nd rfl (by first | exact Or.inl rfl | exact Or.inr rfl) (pe_comp (own := ["_law_j"]) (caps := [0]) rfl (show CompScope ["_law_j"] [0] ["_law_purse_here", "_law_many", "_law_letters", "_law_size", "_law_place", "_law_base", "_law_stride", "_law_far_on", "_law_found", "_law_k", "_law_signs", "_law_word", "_law_at"] (defScope s__law_names) _ from ⟨rfl, by decide +kernel, by decide +kernel, by decide +kernel, by decide +kernel⟩) (pi_range1 rfl T.b_range (@pa_out _ _ _ (@pa_c _ _ _ _ _ (pv 3) pa_n rfl))) (fun _ _ _ _ => (pg_name (i := 0) (show List.Nodup (["_law_j", "_law_purse_here"] : List Str) from by decide +kernel) rfl (by first | exact Or.inl rfl | exact Or.inr rfl))) (fun _ _ _ _ => pts_nil) (fun _ _ _ _ => (pe_call G__law_take (hr.mono (by decide)) rfl T.m__law_take T.k__law_take T.i__law_take .nil pass0 (@pa_out _ _ _ (@pa_c _ _ _ _ _ (pv 1) (@pa_c _ _ _ _ _ pe_int pa_n rfl) rfl)))))) (@bl_c _ _ _ _ _ _ (ps_set (i := 6) nd rfl (by first | exact Or.inl rfl | exact Or.inr rfl) (@pe_ix _ _ _ _ _ _ _ (ix_list' rfl) (@pe_lst _ _ _ _ (@pa_out _ _ _ (@pa_c _ _ _ _ _ pe_int (@pa_c _ _ _ _ _ pe_int (@pa_c _ _ _ _ _ pe_int (@pa_c _ _ _ _ _ pe_int (@pa_c _ _ _ _ _ pe_int (@pa_c _ _ _ _ _ pe_int pa_n rfl) rfl) rfl) rfl) rfl) rfl))) (pe_call G__law_take (hr.mono (by decide)) rfl T.m__law_take T.k__law_take T.i__law_take .nil pass0 (@pa_out _ _ _ (@pa_c _ _ _ _ _ (pv 0) (@pa_c _ _ _ _ _ pe_int pa_n rfl) rfl))) (fun _ _ => rfl))) (@bl_c _ _ _ _ _ _ (ps_set (i := 7) nd rfl (by first | exact Or.inl rfl | exact Or.inr rfl) (pe_call G__law_take (hr.mono (by decide)) rfl T.m__law_take T.k__law_take T.i__law_take .nil pass0 (@pa_out _ _ _ (@pa_c _ _ _ _ _ (pv 0) (@pa_c _ _ _ _ _ pe_int pa_n rfl) rfl)))) (@bl_c _ _ _ _ _ _ (ps_set (i := 8) nd rfl (by first | exact Or.inl rfl | exact Or.inr rfl) (@pe_lst _ _ _ _ pa_nil)) (@bl_c _ _ _ _ _ _ (ps_for PassesOwn.never rfl (pi_range1 rfl T.b_range (@pa_out _ _ _ (@pa_c _ _ _ _ _ (pv 1) pa_n rfl))) (pg_name (i := 9) nd rfl (by first | exact Or.inl rfl | exact Or.inr rfl)) (@bl_out _ _ _ (@bl_c _ _ _ _ _ _ (ps_setComp (ix := 10) nd rfl (by first | exact Or.inl rfl | exact Or.inr rfl) (own := ["_law_j"]) (caps := [2, 5]) rfl (show CompScope ["_law_j"] [2, 5] ["_law_purse_here", "_law_many", "_law_letters", "_law_size", "_law_place", "_law_base", "_law_stride", "_law_far_on", "_law_found", "_law_k", "_law_signs", "_law_word", "_law_at"] (defScope s__law_names) _ from ⟨rfl, by decide +kernel, by decide +kernel, by decide +kernel, by decide +kernel⟩) (pi_range1 rfl T.b_range (@pa_out _ _ _ (@pa_c _ _ _ _ _ (pv 3) pa_n rfl))) (fun _ _ _ _ => (pg_name (i := 0) (show List.Nodup (["_law_j", "_law_letters", "_law_base"] : List Str) from by decide +kernel) rfl (by first | exact Or.inl rfl | exact Or.inr rfl))) (fun _ _ _ _ => pts_nil) (fun _ _ _ _ => (@pe_ix _ _ _ _ _ _ _ ix_str (pv 1) (@pe_ix _ _ _ _ _ _ _ (ix_list' rfl) (pv 2) (pv 0) (fun _ _ => rfl)) (fun _ _ => rfl)))) (@bl_c _ _ _ _ _ _ (ps_asg (@pe_ix _ _ _ _ _ _ _ ix_str (pv 2) (@pe_op _ _ _ _ _ _ _ _ op_mod (@pe_op _ _ _ _ _ _ _ _ op_add (@pe_ix _ _ _ _ _ _ _ (ix_list' rfl) (pv 5) (pv 4) (fun _ _ => rfl)) (@pe_op _ _ _ _ _ _ _ _ op_mul (pv 9) (pv 6))) pe_int) (fun _ _ => rfl)) (pg_sub (pv 10) (pv 4) set_list)) (@bl_1 _ _ _ (ps_expr (pe_bm PySem.F.plainAttrs_list PySem.F.slot_list_append PySem.F.type_list_append mt_append (pv 8) (@pa_out _ _ _ (@pa_c _ _ _ _ _ (@pe_op _ _ _ _ _ _ _ _ op_add_str (pe_bm PySem.F.plainAttrs_str PySem.F.slot_str_join PySem.F.type_str_join mt_join pe_str (@pa_out _ _ _ (@pa_c _ _ _ _ _ (pv 10) pa_n rfl))) (@pe_slice _ _ _ _ _ _ _ _ _ _ sl_str pe_str po_none (@po_some _ _ _ (@pe_op _ _ _ _ _ _ _ _ op_mul (@pe_op _ _ _ _ _ _ _ _ op_mod (@pe_op _ _ _ _ _ _ _ _ op_mul (pv 9) (pv 7)) pe_int) (pe_callTy (call_int1) (by rfl) T.b_int PyProof.Rows.boot_int (@pa_out _ _ _ (@pa_c _ _ _ _ _ (@pe_cmpR _ _ _ _ _ _ _ _ op_lt (pv 3) pe_int (nomark _)) pa_n rfl))))))) pa_n rfl))))))))) (@bl_c _ _ _ _ _ _ (ps_set (i := 11) nd rfl (by first | exact Or.inl rfl | exact Or.inr rfl) (@pe_ix _ _ _ _ _ _ _ (ix_list' rfl) (@pe_lst _ _ _ _ (@pa_out _ _ _ (@pa_c _ _ _ _ _ pe_str (@pa_c _ _ _ _ _ pe_str (@pa_c _ _ _ _ _ pe_str (@pa_c _ _ _ _ _ pe_str (@pa_c _ _ _ _ _ pe_str (@pa_c _ _ _ _ _ pe_str pa_n rfl) rfl) rfl) rfl) rfl) rfl))) (pe_call G__law_take (hr.mono (by decide)) rfl T.m__law_take T.k__law_take T.i__law_take .nil pass0 (@pa_out _ _ _ (@pa_c _ _ _ _ _ (pv 0) (@pa_c _ _ _ _ _ pe_int pa_n rfl) rfl))) (fun _ _ => rfl))) (@bl_c _ _ _ _ _ _ (ps_set (i := 12) nd rfl (by first | exact Or.inl rfl | exact Or.inr rfl) (pe_call G__law_take (hr.mono (by decide)) rfl T.m__law_take T.k__law_take T.i__law_take .nil pass0 (@pa_out _ _ _ (@pa_c _ _ _ _ _ (pv 0) (@pa_c _ _ _ _ _ (pv 1) pa_n rfl) rfl)))) (@bl_c _ _ _ _ _ _ (@ps_if _ _ _ _ _ _ _ _ (@PW.pt _ _ _ (@pw_and _ _ _ _ _ _ _ (@pt_cmpR _ _ _ _ _ _ _ _ op_notIn_seq (pv 11) (pv 8) rfl) (@pw_and1 _ _ _ _ (@pt_cmpR _ _ _ _ _ _ _ _ op_eq (pe_call G__law_take (hr.mono (by decide)) rfl T.m__law_take T.k__law_take T.i__law_take .nil pass0 (@pa_out _ _ _ (@pa_c _ _ _ _ _ (pv 0) (@pa_c _ _ _ _ _ pe_int pa_n rfl) rfl))) pe_int (nomark _))))) (@bl_out _ _ _ (@bl_1 _ _ _ (ps_asg (pv 11) (pg_sub (pv 8) (pv 12) set_list)))) pss_nil) (@bl_1 _ _ _ (@ps_ret _ _ _ _ (pv 8))))))))))))))), ?_⟩
    have line : 100002 ≤ sizeLine := by rw [sizeLine_eq]; decide
    refine ⟨_, rfl, p, 8, rfl, by decide, by decide, pu, fun e1 H1 e10 e18 g1 => ⟨_, _, rfl, rfl, ?_⟩⟩
    obtain ⟨m, hm⟩ : ∃ m : Nat, 1 + e1 = (m : Int) := ⟨(1 + e1).toNat, by omega⟩
    show gName 3 (V.int (1 + e1)) _ _ _
    rw [hm]
    have m1 : 1 ≤ m := by omega
    have m8 : m ≤ 8 := by omega
    refine ⟨_, rfl, _, rfl, p, (m : Int), rfl, by omega, by omega, g1.2, fun pl H2 pl0 pl1 g2 => ?_⟩
    have g02 := g1.trans g2
    refine ⟨_, rfl, _, rfl, by omega, by omega, ?_⟩
    refine comp_range (lo := 0) (m := m) (fun i τ acc H5 => ∃ bs : List Int, (∃ t0, τ = [t0, some (.ref p)]) ∧ acc = bs.map V.int ∧ bs.length = i ∧ (∀ x ∈ bs, 0 ≤ x ∧ x < 26) ∧ Go p H H5) ⟨[], ⟨_, rfl⟩, rfl, rfl, (fun _ z => nomatch z), g02⟩ (by omega) ?_ ?_ ?_
    · rintro i τ acc H5 ⟨bs, _, rfl, l, _⟩
      rw [List.length_map, l]; exact Nat.le_refl _
    · rintro i τ acc H5 C hi ⟨bs, ⟨t0, rfl⟩, rfl, l, hbs, g5⟩ hC
      refine ⟨_, rfl, p, 26, rfl, by decide, by decide, g5.2, fun e H6 e0 e26 g6 => hC _ _ _ ⟨bs ++ [e], ⟨_, rfl⟩, by rw [List.map_append]; rfl, by rw [List.length_append, l]; rfl, fun x hx => ?_, g5.trans g6⟩⟩
      rcases List.mem_append.mp hx with z | z
      · exact hbs x z
      · rw [List.mem_singleton.mp z]; exact ⟨e0, e26⟩
    rintro τ acc H3 ⟨bs, _, rfl, lbs, hbs, g3⟩ bl hbl
    have g4 := g3.new (o := HO.lst (bs.map V.int)) hbl
    have kbl : upd H3 bl (HO.lst (bs.map V.int)) bl = some (.lst (bs.map V.int)) := upd_same
    generalize upd H3 bl (HO.lst (bs.map V.int)) = H4 at g4 kbl ⊢
    have nbp : bl ≠ p := g3.2.ne hbl
    clear g3 hbl g02 g2 g1
    refine ⟨by show 6 ≤ sizeLine; omega, fun l1 hl1 => ⟨_, rfl, p, 6, rfl, by decide, by decide, g4.2.new hl1, fun d H5 d0 d1 g5 => ?_⟩⟩
    have g45 := (g4.new (o := HO.lst [V.int 1, V.int 3, V.int 5, V.int 7, V.int 9, V.int 11]) hl1).trans g5
    have k1 : H5 l1 = some (.lst [V.int 1, V.int 3, V.int 5, V.int 7, V.int 9, V.int 11]) := g5.1 _ _ (g4.2.ne hl1) upd_same
    obtain ⟨st, ast, st1, st11⟩ : ∃ st : Int, atI [V.int 1, V.int 3, V.int 5, V.int 7, V.int 9, V.int 11] d = some (V.int st) ∧ 1 ≤ st ∧ st ≤ 11 := by
      rcases (by omega : d = 0 ∨ d = 1 ∨ d = 2 ∨ d = 3 ∨ d = 4 ∨ d = 5) with rfl | rfl | rfl | rfl | rfl | rfl <;> exact ⟨_, rfl, by decide, by decide⟩
    refine ⟨l1, _, _, _, rfl, rfl, SqL.of k1, ast, ?_⟩
    refine ⟨_, rfl, p, 3, rfl, by decide, by decide, g45.2, fun fo H6 fo0 fo3 g6 => ?_⟩
    have g06 := g45.trans g6
    have kb6 : H6 bl = some (.lst (bs.map V.int)) := g6.1 _ _ nbp (g5.1 _ _ nbp (same_new hl1 _ _ kbl))
    refine ⟨by show 0 ≤ sizeLine; omega, fun fl hfl => ?_⟩
    have g07 := g06.new (o := HO.lst []) hfl
    have kb7 := same_new (o := HO.lst []) hfl _ _ kb6
    have k0 : upd H6 fl (HO.lst []) fl = some (.lst (([] : List Str).map V.str)) := upd_same
    have nfp : fl ≠ p := g06.2.ne hfl
    have nfb : fl ≠ bl := fun z => by rw [z, kb6] at hfl; cases hfl
    have ffl : H fl = none := g06.free hfl nfp
    generalize upd H6 fl (HO.lst []) = H7 at g07 kb7 k0 ⊢
    clear g06 kb6 hfl g45 g5 g6 k1 g4 kbl hl1 ast d0 d1
    obtain ⟨pn, rfl⟩ := Int.eq_ofNat_of_zero_le pl0
    obtain ⟨bpl, hbpl⟩ : ∃ x, bs[pn]? = some x := ⟨_, List.getElem?_eq_getElem (by omega)⟩
    have atpl : atI (bs.map V.int) (pn : Int) = some (V.int bpl) := atI_nat (by rw [List.getElem?_map, hbpl]; rfl)
    refine ⟨_, rfl, _, rfl, by omega, by omega, ?_⟩
    refine for_range (lo := 0) (fun i σ H8 => ∃ ss : List Str, (∃ v9 v10 v11 v12, σ = [some (.ref p), some (.int (n : Int)), some (.str A26), some (.int (m : Int)), some (.int (pn : Int)), some (.ref bl), some (.int st), some (.int fo), some (.ref fl), v9, v10, v11, v12]) ∧ Go p H H8 ∧ H8 bl = some (.lst (bs.map V.int)) ∧ H8 fl = some (.lst (ss.map V.str)) ∧ ss.length = i ∧ ∀ s ∈ ss, s.length ≤ 100) ⟨[], ⟨_, _, _, _, rfl⟩, g07, kb7, k0, rfl, fun _ z => nomatch z⟩ ?_ ?_
    · clear g07 kb7 k0
      rintro i σ H8 hi ⟨ss, ⟨v9, v10, v11, v12, rfl⟩, g8, kb8, kf8, lss, hss⟩
      rw [Int.zero_add]
      have hi' : i < n := by simpa using hi
      refine ⟨_, rfl, _, rfl, by omega, by omega, ?_⟩
      refine comp_range (lo := 0) (m := m) (fun j τ acc H9 => ∃ cs : List Str, (∃ t0, τ = [t0, some (.str A26), some (.ref bl)]) ∧ acc = cs.map V.str ∧ cs.length = j ∧ (∀ s ∈ cs, s.length = 1) ∧ Same H8 H9) ⟨[], ⟨_, rfl⟩, rfl, rfl, (fun _ z => nomatch z), Same.refl _⟩ (by omega) ?_ ?_ ?_
      · rintro j τ acc H9 ⟨cs, _, rfl, l, _⟩
        rw [List.length_map, l]; exact Nat.le_refl _
      · rintro j τ acc H9 C hj ⟨cs, ⟨t0, rfl⟩, rfl, l, hcs, s9⟩ hC
        rw [Int.zero_add]
        obtain ⟨x, hx⟩ : ∃ x, bs[j]? = some x := ⟨_, List.getElem?_eq_getElem (by omega)⟩
        obtain ⟨x0, x26⟩ := hbs x (List.mem_of_getElem? hx)
        obtain ⟨c, hc⟩ := at26 x0 x26
        refine ⟨_, rfl, _, rfl, _, rfl, bl, _, _, V.int x, rfl, rfl, SqL.of (s9 _ _ kb8), atI_nat (by rw [List.getElem?_map, hx]; rfl), A26, x, c, rfl, rfl, by rw [a26_len]; omega, hc, hC _ _ _ ⟨cs ++ [⟨#[c]⟩], ⟨_, rfl⟩, by rw [List.map_append]; rfl, by rw [List.length_append, l]; rfl, fun s hs => ?_, s9⟩⟩
        rcases List.mem_append.mp hs with z | z
        · exact hcs s z
        · rw [List.mem_singleton.mp z]; rfl
      rintro τ acc H9 ⟨cs, _, rfl, lcs, hcs, s9⟩ sl hsl
      have s10 := same_new (o := HO.lst (cs.map V.str)) hsl
      have ksl : upd H9 sl (HO.lst (cs.map V.str)) sl = some (.lst (cs.map V.str)) := upd_same
      have s810 := s9.trans s10
      have nsb : bl ≠ sl := fun z => by have := s9 _ _ kb8; rw [z, hsl] at this; cases this
      have nsf : fl ≠ sl := fun z => by have := s9 _ _ kf8; rw [z, hsl] at this; cases this
      have nsp : sl ≠ p := (g8.same s9).2.ne hsl
      generalize upd H9 sl (HO.lst (cs.map V.str)) = H10 at s10 ksl s810 ⊢
      have g10 := g8.same s810
      have kb10 := s810 _ _ kb8
      have kf10 := s810 _ _ kf8
      obtain ⟨c, hc⟩ := at26 (x := (bpl + (i : Int) * st) % 26) (Int.emod_nonneg _ (by decide)) (Int.emod_lt_of_pos _ (by decide))
      have ixpl : ixN (cs.map V.str).length (pn : Int) = some pn := by unfold ixN; rw [if_pos (by omega), if_pos (by rw [List.length_map]; omega), Int.toNat_natCast]
      refine ⟨_, rfl, _, rfl, _, rfl, bl, _, _, _, rfl, rfl, SqL.of kb10, atpl, _, rfl, _, rfl, _, _, rfl, rfl, .inr ⟨by omega, by omega⟩, _, _, rfl, rfl, _, _, rfl, rfl, (by show (0 : Int) < 26; decide), A26, _, c, rfl, rfl, by rw [a26_len]; omega, hc, _, rfl, _, rfl, sl, _, _, pn, rfl, rfl, ksl, ixpl, ?_⟩
      have b11 : But sl H10 (upd H10 sl (HO.lst ((cs.map V.str).set pn (V.str ⟨#[c]⟩)))) := But.set
      have k11 : upd H10 sl (HO.lst ((cs.map V.str).set pn (V.str ⟨#[c]⟩))) sl = some (.lst ((cs.set pn ⟨#[c]⟩).map V.str)) := by rw [upd_same, List.map_set]
      generalize upd H10 sl (HO.lst ((cs.map V.str).set pn (V.str ⟨#[c]⟩))) = H11 at b11 k11 ⊢
      have kb11 := b11 _ _ nsb kb10
      have kf11 := b11 _ _ nsf kf10
      have fsl : H sl = none := (g8.same s9).free hsl nsp
      have g11 := g10.but fsl nsp b11
      have lj := join_len (Str.ofString "") (cs.set pn ⟨#[c]⟩)
      have z0 : (Str.ofString "").length = 0 := by decide +kernel
      have zab : (Str.ofString "ab").length = 2 := by decide +kernel
      have sum1 : ((cs.set pn ⟨#[c]⟩).map fun y => y.length).sum = m := by
        rw [sum_ones (fun s hs => by
          rcases List.mem_or_eq_of_mem_set hs with z | z
          · exact hcs s z
          · rw [z]; rfl), List.length_set]; exact lcs
      rw [sum1, List.length_set, z0] at lj
      refine ⟨_, rfl, .inl ⟨rfl, _, SqL.of kf11⟩, rfl, _, rfl, Str.ofString "", sl, cs.set pn ⟨#[c]⟩, rfl, rfl, SqL.of k11, (by rw [sum1, List.length_set, z0]; omega), ?_⟩
      refine ⟨_, rfl, _, rfl, _, _, rfl, rfl, .inr ⟨by omega, by omega⟩, _, _, rfl, rfl, (by show (0 : Int) < 3; decide), _, rfl, _, _, rfl, rfl, .inr ⟨_, rfl, _, _, rfl, rfl, .inl ⟨by omega, by omega⟩, ?_⟩⟩
      refine ⟨_, rfl, _, rfl, by omega, ?_⟩
      refine ⟨_, _, rfl, rfl, Nat.le_trans (Nat.add_le_add lj (Txt.slice_le _ _ _)) (by omega), fl, _, _, rfl, rfl, kf11, (by rw [List.length_map]; omega), ss ++ [Txt.join (Str.ofString "") (cs.set pn ⟨#[c]⟩) ++ Txt.slice (Str.ofString "ab") none (some _)], ⟨_, _, _, _, rfl⟩, g11.but ffl nfp But.set, ?_, upd_same.trans (congrArg (fun z => some (HO.lst z)) (List.map_append (f := V.str) (l₂ := [_])).symm), (by rw [List.length_append, lss]; rfl), fun s hs => ?_⟩
      · rw [upd_ne nfb.symm]; exact kb11
      rcases List.mem_append.mp hs with z | z
      · exact hss s z
      · rw [List.mem_singleton.mp z, app_len]
        exact Nat.le_trans (Nat.add_le_add lj (Txt.slice_le _ _ _)) (by omega)
    clear g07 kb7 k0
    rintro σ H8 ⟨ss, ⟨v9, v10, v11, v12, rfl⟩, g8, kb8, kf8, lss, hss⟩
    rw [Int.toNat_natCast] at lss
    refine ⟨by show 6 ≤ sizeLine; omega, fun l2 hl2 => ⟨_, rfl, p, 6, rfl, by decide, by decide, g8.2.new hl2, fun d H9 d0 d1 g9 => ?_⟩⟩
    have g09 := (g8.new (o := HO.lst (sixW.map V.str)) hl2).trans g9
    have k2 : H9 l2 = some (.lst (sixW.map V.str)) := g9.1 _ _ (g8.2.ne hl2) upd_same
    have kf9 : H9 fl = some (.lst (ss.map V.str)) := g9.1 _ _ nfp (same_new hl2 _ _ kf8)
    obtain ⟨wd, aw, lwd⟩ := words_at d0 d1
    refine ⟨l2, _, _, _, rfl, rfl, SqL.of k2, aw, ?_⟩
    refine ⟨_, rfl, _, rfl, p, (n : Int), rfl, by omega, by omega, g09.2, fun at0 H10 a0 a1 g10 => ?_⟩
    have g010 := g09.trans g10
    have kf10 := g10.1 _ _ nfp kf9
    refine ⟨_, rfl, _, rfl, fl, _, rfl, .inl (SqL.of kf10), rfl, flat_strs ss, _, rfl, iteA (fun σ H1 => ∃ ss : List Str, (∃ v9 v10 v11 v12, σ = [some (.ref p), some (.int (n : Int)), some (.str A26), some (.int (m : Int)), some (.int (pn : Int)), some (.ref bl), some (.int st), some (.int fo), some (.ref fl), v9, v10, v11, v12]) ∧ Go p H H1 ∧ H1 fl = some (.lst (ss.map V.str)) ∧ ss.length = n ∧ ∀ s ∈ ss, s.length ≤ 100) ?_ ?_ ?_⟩
    rotate_left
    · intro _ kk
      refine ⟨_, rfl, p, 3, rfl, by decide, by decide, g010.2, fun e H11 e0 e1 g11 => ⟨rfl, _, rfl, iteB (fun _ => ?_) (fun _ => ?_)⟩⟩
      · obtain ⟨an, rfl⟩ := Int.eq_ofNat_of_zero_le a0
        have kf11 := g11.1 _ _ nfp kf10
        have ixa : ixN (ss.map V.str).length (an : Int) = some an := by unfold ixN; rw [if_pos (by omega), if_pos (by rw [List.length_map]; omega), Int.toNat_natCast]
        refine ⟨_, rfl, _, rfl, _, rfl, fl, _, _, an, rfl, rfl, kf11, ixa, kk _ _ ⟨ss.set an wd, ⟨_, _, _, _, rfl⟩, (g010.trans g11).but ffl nfp But.set, by rw [upd_same, List.map_set], by rw [List.length_set]; exact lss, fun s hs => ?_⟩⟩
        rcases List.mem_or_eq_of_mem_set hs with z | z
        · exact hss s z
        · rw [z]; omega
      · exact kk _ _ ⟨ss, ⟨_, _, _, _, rfl⟩, g010.trans g11, g11.1 _ _ nfp kf10, lss, hss⟩
    · intro _
      exact ⟨ss, ⟨_, _, _, _, rfl⟩, g010, kf10, lss, hss⟩
    rintro σ H1 ⟨ss, ⟨v9, v10, v11, v12, rfl⟩, g1, kf1, l1, h1⟩
    exact ⟨_, rfl, q fl ss H1 g1 ffl kf1 l1 h1⟩
theorem sc__law_rows : FnScope ["_law_names_here", "_law_book_here", "_law_letters_here", "_law_found", "_law_k", "_law_one", "_law_other", "_law_when", "_law_passed", "_law_sender", "_law_since", "_law_wish", "_law_last"] ["_law_names_here", "_law_book_here", "_law_letters_here"] (defScope s__law_rows) := ⟨rfl, rfl, rfl, by decide +kernel, rfl, by decide +kernel, by decide +kernel⟩
theorem ok__law_rows (T : Tx K mg a) : FnOk P w K mg base CX0 1 a.a__law_rows a.d__law_rows ["_law_names_here", "_law_book_here", "_law_letters_here"] (spShow) := by
  refine T.F__law_rows.ok sc__law_rows (fun vs H Q E h => ?_) (fun cdv A outer s H vs Q E hr h => ?_)
  · obtain ⟨_, _, _, _, _, _, _, _, _, rfl, _⟩ := h; rfl
  · have nd := sc__law_rows.nd
    have hu := hr.units
    obtain ⟨nl, b, ll, ns, ls, rooms, tr, tm, ps, rfl, hn, hb, ln, r12, n100, rb, gd, hll, l41, lb, q⟩ := h
    refine ⟨_, (@bl_out _ _ _ (@bl_c _ _ _ _ _ _ (ps_set (i := 3) nd rfl (by first | exact Or.inl rfl | exact Or.inr rfl) (@pe_lst _ _ _ _ pa_nil)) (@bl_c _ _ _ _ _ _ (ps_for PassesOwn.never rfl (pi_range1 rfl T.b_range (@pa_out _ _ _ (@pa_c _ _ _ _ _ (pe_callB (call_len_seq' rfl) (by rfl) T.b_len PySem.boot_len (@pa_out _ _ _ (@pa_c _ _ _ _ _ (pv 0) pa_n rfl))) pa_n rfl))) (pg_name (i := 4) nd rfl (by first | exact Or.inl rfl | exact Or.inr rfl)) (@bl_out _ _ _ (@bl_1 _ _ _ (ps_expr (pe_bm PySem.F.plainAttrs_list PySem.F.slot_list_append PySem.F.type_list_append mt_append (pv 3) (@pa_out _ _ _ (@pa_c _ _ _ _ _ (@pe_op _ _ _ _ _ _ _ _ op_add_str (@pe_op _ _ _ _ _ _ _ _ op_add_str (@pe_op _ _ _ _ _ _ _ _ op_add_str pe_str (@pe_ix _ _ _ _ _ _ _ (ix_list' rfl) (pv 0) (pv 4) (fun _ _ => rfl))) pe_str) (pe_callTy (call_str_int) (by rfl) T.b_str PyProof.Rows.boot_str (@pa_out _ _ _ (@pa_c _ _ _ _ _ (@pe_ix _ _ _ _ _ _ _ (ix_tup' rfl) (@pe_ix _ _ _ _ _ _ _ (ix_tup' rfl) (pv 1) pe_int (fun _ _ => rfl)) (pv 4) (fun _ _ => rfl)) pa_n rfl)))) pa_n rfl))))))) (@bl_c _ _ _ _ _ _ (ps_for PassesOwn.never rfl (@pi_tup'' _ _ _ _ _ rfl (@pe_ix _ _ _ _ _ _ _ (ix_tup' rfl) (pv 1) pe_int (fun _ _ => rfl))) (pg_tup' (n := 4) rfl rfl (pgs_cons (pg_name (i := 5) nd rfl (by first | exact Or.inl rfl | exact Or.inr rfl)) (pgs_cons (pg_name (i := 6) nd rfl (by first | exact Or.inl rfl | exact Or.inr rfl)) (pgs_cons (pg_name (i := 7) nd rfl (by first | exact Or.inl rfl | exact Or.inr rfl)) (pgs_cons (pg_name (i := 8) nd rfl (by first | exact Or.inl rfl | exact Or.inr rfl)) pgs_nil))))) (@bl_out _ _ _ (@bl_1 _ _ _ (ps_expr (pe_bm PySem.F.plainAttrs_list PySem.F.slot_list_append PySem.F.type_list_append mt_append (pv 3) (@pa_out _ _ _ (@pa_c _ _ _ _ _ (pe_bm PySem.F.plainAttrs_str PySem.F.slot_str_join PySem.F.type_str_join mt_join pe_str (@pa_out _ _ _ (@pa_c _ _ _ _ _ (@pe_lst _ _ _ _ (@pa_out _ _ _ (@pa_c _ _ _ _ _ pe_str (@pa_c _ _ _ _ _ (@pe_ix _ _ _ _ _ _ _ (ix_list' rfl) (pv 0) (pv 5) (fun _ _ => rfl)) (@pa_c _ _ _ _ _ (@pe_ix _ _ _ _ _ _ _ (ix_list' rfl) (pv 0) (pv 6) (fun _ _ => rfl)) (@pa_c _ _ _ _ _ (pe_callTy (call_str_int) (by rfl) T.b_str PyProof.Rows.boot_str (@pa_out _ _ _ (@pa_c _ _ _ _ _ (pv 7) pa_n rfl))) (@pa_c _ _ _ _ _ (pe_callTy (call_str_int) (by rfl) T.b_str PyProof.Rows.boot_str (@pa_out _ _ _ (@pa_c _ _ _ _ _ (pv 8) pa_n rfl))) pa_n rfl) rfl) rfl) rfl) rfl))) pa_n rfl))) pa_n rfl))))))) (@bl_c _ _ _ _ _ _ (ps_for PassesOwn.never rfl (@pi_list' _ _ _ _ _ rfl (pv 2)) (pg_tup' (n := 4) rfl rfl (pgs_cons (pg_name (i := 9) nd rfl (by first | exact Or.inl rfl | exact Or.inr rfl)) (pgs_cons (pg_name (i := 10) nd rfl (by first | exact Or.inl rfl | exact Or.inr rfl)) (pgs_cons (pg_name (i := 11) nd rfl (by first | exact Or.inl rfl | exact Or.inr rfl)) (pgs_cons (pg_name (i := 12) nd rfl (by first | exact Or.inl rfl | exact Or.inr rfl)) pgs_nil))))) (@bl_out _ _ _ (@bl_1 _ _ _ (ps_expr (pe_bm PySem.F.plainAttrs_list PySem.F.slot_list_append PySem.F.type_list_append mt_append (pv 3) (@pa_out _ _ _ (@pa_c _ _ _ _ _ (pe_bm PySem.F.plainAttrs_str PySem.F.slot_str_join PySem.F.type_str_join mt_join pe_str (@pa_out _ _ _ (@pa_c _ _ _ _ _ (@pe_lst _ _ _ _ (@pa_out _ _ _ (@pa_c _ _ _ _ _ pe_str (@pa_c _ _ _ _ _ (@pe_ix _ _ _ _ _ _ _ (ix_list' rfl) (pv 0) (pv 9) (fun _ _ => rfl)) (@pa_c _ _ _ _ _ (pe_callTy (call_str_int) (by rfl) T.b_str PyProof.Rows.boot_str (@pa_out _ _ _ (@pa_c _ _ _ _ _ (pv 10) pa_n rfl))) (@pa_c _ _ _ _ _ (@pe_ix _ _ _ _ _ _ _ (ix_list' rfl) (pv 0) (pv 11) (fun _ _ => rfl)) (@pa_c _ _ _ _ _ (pe_callTy (call_str_int) (by rfl) T.b_str PyProof.Rows.boot_str (@pa_out _ _ _ (@pa_c _ _ _ _ _ (pv 12) pa_n rfl))) pa_n rfl) rfl) rfl) rfl) rfl))) pa_n rfl))) pa_n rfl))))))) (@bl_1 _ _ _ (@ps_ret _ _ _ _ (pv 3)))))))), ?_⟩
    have line : 100002 ≤ sizeLine := by rw [sizeLine_eq]; decide
    have zE : Str.empty.length = 0 := rfl
    have z1 : (Str.ofString "walker ").length = 7 := by decide +kernel
    have z2 : (Str.ofString "meet ").length = 5 := by decide +kernel
    have z3 : (Str.ofString "letter ").length = 7 := by decide +kernel
    have z4 : (Str.ofString " ").length = 1 := by decide +kernel
    have z5 : (Str.ofString "meet").length = 4 := by decide +kernel
    have z6 : (Str.ofString "letter").length = 6 := by decide +kernel
    have rm : ∀ {r : Int}, r ∈ rooms → -(10 ^ 12) ≤ r ∧ r ≤ 10 ^ 12 := fun {r} hr => by have := rb r hr; omega
    have nmb : ∀ {i : Int}, 0 ≤ i → i < rooms.length → atI (ns.map V.str) i = some (V.str (nm ns i)) ∧ (nm ns i).length ≤ 100 := fun {i} h0 h1 => by
      have := nm_at (ns := ns) h0 (by omega)
      exact ⟨this.1, n100 _ this.2⟩
    have n60 := gd.len
    refine ⟨by show 0 ≤ sizeLine; omega, fun fl hfl => ?_⟩
    have s0 := same_new (o := HO.lst []) hfl
    have k0 : upd H fl (HO.lst []) fl = some (.lst ([] : List V)) := upd_same
    generalize upd H fl (HO.lst []) = H0 at s0 k0 ⊢
    refine ⟨_, rfl, nl, _, rfl, .inl (SqL.of (s0 _ _ hn)), _, rfl, by omega, by rw [List.length_map]; omega, ?_⟩
    refine for_range (lo := 0) (fun i σ H5 => (∃ v4 v5 v6 v7 v8 v9 v10 v11 v12, σ = [some (.ref nl), some (.ref b), some (.ref ll), some (.ref fl), v4, v5, v6, v7, v8, v9, v10, v11, v12]) ∧ Same H H5 ∧ H5 fl = some (.lst ((((ns.zip rooms).take i).map rowW).map V.str))) ⟨⟨_, _, _, _, _, _, _, _, _, rfl⟩, s0, k0⟩ ?_ ?_
    · rintro i σ H5 hi ⟨⟨v4, v5, v6, v7, v8, v9, v10, v11, v12, rfl⟩, s5, kf⟩
      rw [Int.zero_add]
      have hi' : i < ns.length := by rw [List.length_map] at hi; simpa using hi
      obtain ⟨x, hx⟩ : ∃ x, ns[i]? = some x := ⟨_, List.getElem?_eq_getElem hi'⟩
      obtain ⟨r, hr⟩ : ∃ r, rooms[i]? = some r := ⟨_, List.getElem?_eq_getElem (by omega)⟩
      have hz : (ns.zip rooms)[i]? = some (x, r) := List.getElem?_zip_eq_some.mpr ⟨hx, hr⟩
      have lx := n100 x (List.mem_of_getElem? hx)
      have rb1 := rm (List.mem_of_getElem? hr)
      have lr := tx_len rb1.1 rb1.2
      have atx : atI (ns.map V.str) (i : Int) = some (V.str x) := atI_nat (by rw [List.getElem?_map, hx]; rfl)
      have atr : atI (rooms.map V.int) (i : Int) = some (V.int r) := atI_nat (by rw [List.getElem?_map, hr]; rfl)
      have hb5 := hb.same s5
      refine ⟨_, rfl, .inl ⟨rfl, _, SqL.of kf⟩, _, rfl, _, rfl, nl, _, _, _, rfl, rfl, SqL.of (s5 _ _ hn), atx, _, _, rfl, rfl, (by simp only [app_len, zE, z1, z2, z3, z4]; omega), _, _, rfl, rfl, (by simp only [app_len, zE, z1, z2, z3, z4]; omega), _, rfl, b, _, _, _, rfl, rfl, SqT.of hb5.book, rfl, _, rfl, tr, _, _, _, rfl, rfl, SqT.of hb5.rooms, atr, r, rfl, small_log rb1.1 rb1.2, _, tx r, rfl, rfl, (by simp only [app_len, zE, z1, z2, z3, z4]; omega), fl, _, _, rfl, rfl, kf, (by rw [List.length_map, List.length_map, List.length_take]; omega), ⟨_, _, _, _, _, _, _, _, _, rfl⟩, But.same hfl s5 But.set, ?_⟩
      rw [upd_same, take_snoc hz, List.map_append, List.map_append]; rfl
    rintro σ H5 ⟨⟨v4, v5, v6, v7, v8, v9, v10, v11, v12, rfl⟩, s5, kf⟩
    rw [List.length_map, Int.toNat_natCast, List.take_of_length_le (by rw [List.length_zip]; omega)] at kf
    have hb5 := hb.same s5
    have lz : (ns.zip rooms).length ≤ 12 := by rw [List.length_zip]; omega
    clear s0 k0
    refine ⟨_, rfl, b, _, _, _, rfl, rfl, SqT.of hb5.book, rfl, tm, rfl, ⟨_, SqT.of hb5.meets⟩, ?_⟩
    refine for_tup (K := K) (a := tm) (xs := ps.map fun a => V.ref a.1) (fun i σ H5 => (∃ v4 v5 v6 v7 v8 v9 v10 v11 v12, σ = [some (.ref nl), some (.ref b), some (.ref ll), some (.ref fl), v4, v5, v6, v7, v8, v9, v10, v11, v12]) ∧ Same H H5 ∧ H5 fl = some (.lst (((ns.zip rooms).map rowW ++ ((ps.map (·.2)).take i).map (rowM ns)).map V.str))) ⟨⟨_, _, _, _, _, _, _, _, _, rfl⟩, s5, by rw [kf]; show _ = some (HO.lst ((_ ++ []).map V.str)); rw [List.append_nil]⟩ ?_ ?_ ?_
    · rintro i σ H5 _ ⟨_, s5, _⟩
      exact SqT.of (hb.same s5).meets
    · clear s5 kf hb5
      rintro i v σ H5 hv ⟨⟨v4, v5, v6, v7, v8, v9, v10, v11, v12, rfl⟩, s5, kf⟩
      obtain ⟨p0, hp0, rfl⟩ := map_get hv
      have ge := gd.each p0.2 (List.mem_map.mpr ⟨p0, List.mem_of_getElem? hp0, rfl⟩)
      have hM : (ps.map (·.2))[i]? = some p0.2 := by rw [List.getElem?_map, hp0]; rfl
      obtain ⟨a1, l1⟩ := nmb (i := p0.2.lo) (by omega) (by omega)
      obtain ⟨a2, l2⟩ := nmb (i := p0.2.hi) (by omega) (by omega)
      have b1 : -(10 ^ 12) ≤ p0.2.t ∧ p0.2.t ≤ 10 ^ 12 := by omega
      have b2 : -(10 ^ 12) ≤ p0.2.m ∧ p0.2.m ≤ 10 ^ 12 := by omega
      have t1 := tx_len b1.1 b1.2
      have t2 := tx_len b2.1 b2.2
      have hrow := (hb.same s5).rows p0 (List.mem_of_getElem? hp0)
      have hn5 := s5 _ _ hn
      refine ⟨p0.1, _, rfl, SqT.of hrow, rfl, _, _, rfl, _, _, rfl, _, _, rfl, _, _, rfl, rfl, ?_⟩
      refine ⟨_, rfl, .inl ⟨rfl, _, SqL.of kf⟩, rfl, _, rfl, _, rfl, nl, _, _, _, rfl, rfl, SqL.of hn5, a1, _, rfl, _, rfl, nl, _, _, _, rfl, rfl, SqL.of hn5, a2, _, rfl, p0.2.t, rfl, small_log b1.1 b1.2, _, rfl, p0.2.m, rfl, small_log b2.1 b2.2, by show 5 ≤ sizeLine; omega, fun j1 hj1 => ?_⟩
      refine ⟨Str.ofString " ", j1, [Str.ofString "meet", nm ns p0.2.lo, nm ns p0.2.hi, tx p0.2.t, tx p0.2.m], rfl, rfl, SqL.of upd_same, ?_, fl, _, _, rfl, rfl, same_new hj1 _ _ kf, ?_, ⟨_, _, _, _, _, _, _, _, _, rfl⟩, But.same hfl (s5.trans (same_new hj1)) But.set, ?_⟩
      · show (Str.ofString "meet").length + ((nm ns p0.2.lo).length + ((nm ns p0.2.hi).length + ((tx p0.2.t).length + ((tx p0.2.m).length + 0)))) + 5 * (Str.ofString " ").length ≤ 16777216
        omega
      · rw [List.length_map, List.length_append, List.length_map, List.length_map, List.length_take, List.length_map]; omega
      · rw [upd_same, take_snoc hM, List.map_append (f := rowM ns), ← List.append_assoc, join5, meet_sp]; exact congrArg (fun z => some (HO.lst z)) (List.map_append (f := V.str) (l₂ := [rowM ns p0.2])).symm
    rintro σ H6 ⟨⟨v4, v5, v6, v7, v8, v9, v10, v11, v12, rfl⟩, s6, kf6⟩
    rw [List.length_map, List.take_of_length_le (by rw [List.length_map]; omega)] at kf6
    clear s5 kf hb5
    refine ⟨_, rfl, ll, rfl, ⟨_, SqL.of (hll.same s6).1⟩, ?_⟩
    refine for_list (K := K) (a := ll) (xs := ls.map fun a => V.ref a.1) (fun i σ H5 => (∃ v4 v5 v6 v7 v8 v9 v10 v11 v12, σ = [some (.ref nl), some (.ref b), some (.ref ll), some (.ref fl), v4, v5, v6, v7, v8, v9, v10, v11, v12]) ∧ Same H H5 ∧ H5 fl = some (.lst ((((ns.zip rooms).map rowW ++ (ps.map (·.2)).map (rowM ns)) ++ ((ls.map (·.2)).take i).map (rowL ns)).map V.str))) ⟨⟨_, _, _, _, _, _, _, _, _, rfl⟩, s6, by rw [kf6]; show _ = some (HO.lst ((_ ++ []).map V.str)); rw [List.append_nil]⟩ ?_ ?_ ?_
    · rintro i σ H5 _ ⟨_, s5, _⟩
      exact SqL.of (hll.same s5).1
    · clear s6 kf6
      rintro i v σ H5 hv ⟨⟨v4, v5, v6, v7, v8, v9, v10, v11, v12, rfl⟩, s5, kf⟩
      obtain ⟨L, hL, rfl⟩ := map_get hv
      have Lm := List.mem_of_getElem? hL
      obtain ⟨c1, c2, c3, c4, c5, c6⟩ := lb L Lm
      have hM : (ls.map (·.2))[i]? = some L.2 := by rw [List.getElem?_map, hL]; rfl
      obtain ⟨a1, l1⟩ := nmb (i := (L.2.s : Int)) (by omega) (by omega)
      obtain ⟨a2, l2⟩ := nmb (i := (L.2.w : Int)) (by omega) (by omega)
      have t1 := tx_len c3 c4
      have t2 := tx_len c5 c6
      have hrow : H5 L.1 = some (.tup [V.int (L.2.s : Int), V.int L.2.a, V.int (L.2.w : Int), V.int L.2.z]) := (hll.same s5).2 L Lm
      have hn5 := s5 _ _ hn
      refine ⟨L.1, _, rfl, SqT.of hrow, rfl, _, _, rfl, _, _, rfl, _, _, rfl, _, _, rfl, rfl, ?_⟩
      refine ⟨_, rfl, .inl ⟨rfl, _, SqL.of kf⟩, rfl, _, rfl, _, rfl, nl, _, _, _, rfl, rfl, SqL.of hn5, a1, _, rfl, L.2.a, rfl, small_log c3 c4, _, rfl, _, rfl, nl, _, _, _, rfl, rfl, SqL.of hn5, a2, _, rfl, L.2.z, rfl, small_log c5 c6, by show 5 ≤ sizeLine; omega, fun j1 hj1 => ?_⟩
      refine ⟨Str.ofString " ", j1, [Str.ofString "letter", nm ns (L.2.s : Int), tx L.2.a, nm ns (L.2.w : Int), tx L.2.z], rfl, rfl, SqL.of upd_same, ?_, fl, _, _, rfl, rfl, same_new hj1 _ _ kf, ?_, ⟨_, _, _, _, _, _, _, _, _, rfl⟩, But.same hfl (s5.trans (same_new hj1)) But.set, ?_⟩
      · show (Str.ofString "letter").length + ((nm ns (L.2.s : Int)).length + ((tx L.2.a).length + ((nm ns (L.2.w : Int)).length + ((tx L.2.z).length + 0)))) + 5 * (Str.ofString " ").length ≤ 16777216
        omega
      · rw [List.length_map, List.length_append, List.length_append, List.length_map, List.length_map, List.length_map, List.length_map, List.length_take, List.length_map]; omega
      · rw [upd_same, take_snoc hM, List.map_append (f := rowL ns), ← List.append_assoc, join5, letter_sp]; exact congrArg (fun z => some (HO.lst z)) (List.map_append (f := V.str) (l₂ := [rowL ns L.2])).symm
    rintro σ H5 ⟨⟨v4, v5, v6, v7, v8, v9, v10, v11, v12, rfl⟩, s5, kf⟩
    rw [List.length_map, List.take_of_length_le (by rw [List.length_map]; omega)] at kf
    exact ⟨_, rfl, q fl _ s5 hfl kf⟩
theorem sc_law : FnScope ["_law_script", "_law_book_here", "_law_names_here", "_law_letters_here", "_law_k", "_law_due", "_law_handed", "_law_told"] ["_law_script"] (defScope s_law) := ⟨rfl, rfl, rfl, by decide +kernel, rfl, by decide +kernel, by decide +kernel⟩
theorem ok_law (T : Tx K mg a) : FnOk P w K mg base CX0 5 a.a_law a.d_law ["_law_script"] (spLaw K) := by
  have G__law_purse := @ok__law_purse P w _ _ base _ T
  have G__law_book := @ok__law_book P w _ _ base _ T
  have G__law_letter := @ok__law_letter P w _ _ base _ T
  have G_show_all := @ok_show_all P w _ _ base _ T
  have G__law_names := @ok__law_names P w _ _ base _ T
  have G__law_rows := @ok__law_rows P w _ _ base _ T
  refine T.F_law.ok sc_law (fun vs H Q E h => ?_) (fun cdv A outer s H vs Q E hr h => ?_)
  · obtain ⟨_, _, rfl, _⟩ := h; rfl
  · have nd := sc_law.nd
    have hu := hr.units
    obtain ⟨sa, ns0, rfl, hS, hn0, q⟩ := h
    refine ⟨_, (@bl_out _ _ _ (@bl_c _ _ _ _ _ _ (ps_set (i := 1) nd rfl (by first | exact Or.inl rfl | exact Or.inr rfl) (pe_call G__law_book (hr.mono (by decide)) rfl T.m__law_book T.k__law_book T.i__law_book .nil pass0 (@pa_out _ _ _ (@pa_c _ _ _ _ _ (pe_call G__law_purse (hr.mono (by decide)) rfl T.m__law_purse T.k__law_purse T.i__law_purse .nil pass0 (@pa_out _ _ _ (@pa_c _ _ _ _ _ (pv 0) (@pa_c _ _ _ _ _ pe_int pa_n rfl) rfl))) (@pa_c _ _ _ _ _ pe_int (@pa_c _ _ _ _ _ pe_int pa_n rfl) rfl) rfl)))) (@bl_c _ _ _ _ _ _ (ps_set (i := 2) nd rfl (by first | exact Or.inl rfl | exact Or.inr rfl) (pe_call G__law_names (hr.mono (by decide)) rfl T.m__law_names T.k__law_names T.i__law_names .nil pass0 (@pa_out _ _ _ (@pa_c _ _ _ _ _ (pe_call G__law_purse (hr.mono (by decide)) rfl T.m__law_purse T.k__law_purse T.i__law_purse .nil pass0 (@pa_out _ _ _ (@pa_c _ _ _ _ _ (pv 0) (@pa_c _ _ _ _ _ pe_int pa_n rfl) rfl))) (@pa_c _ _ _ _ _ (pe_callB (call_len_seq' rfl) (by rfl) T.b_len PySem.boot_len (@pa_out _ _ _ (@pa_c _ _ _ _ _ (@pe_ix _ _ _ _ _ _ _ (ix_tup' rfl) (pv 1) pe_int (fun _ _ => rfl)) pa_n rfl))) pa_n rfl) rfl)))) (@bl_c _ _ _ _ _ _ (ps_set (i := 3) nd rfl (by first | exact Or.inl rfl | exact Or.inr rfl) (@pe_lst _ _ _ _ pa_nil)) (@bl_c _ _ _ _ _ _ (ps_for PassesOwn.never rfl (pi_range2 rfl T.b_range (@pa_out _ _ _ (@pa_c _ _ _ _ _ pe_int (@pa_c _ _ _ _ _ (pe_callB (call_min2 rfl) (by rfl) T.b_min PyProof.Rows.boot_min (@pa_out _ _ _ (@pa_c _ _ _ _ _ (pe_callB (call_len_seq' rfl) (by rfl) T.b_len PySem.boot_len (@pa_out _ _ _ (@pa_c _ _ _ _ _ (pv 0) pa_n rfl))) (@pa_c _ _ _ _ _ pe_int pa_n rfl) rfl))) pa_n rfl) rfl))) (pg_name (i := 4) nd rfl (by first | exact Or.inl rfl | exact Or.inr rfl)) (@bl_out _ _ _ (@bl_1 _ _ _ (ps_expr (pe_bm PySem.F.plainAttrs_list PySem.F.slot_list_append PySem.F.type_list_append mt_append (pv 3) (@pa_out _ _ _ (@pa_c _ _ _ _ _ (pe_call G__law_letter (hr.mono (by decide)) rfl T.m__law_letter T.k__law_letter T.i__law_letter .nil pass0 (@pa_out _ _ _ (@pa_c _ _ _ _ _ (pe_call G__law_purse (hr.mono (by decide)) rfl T.m__law_purse T.k__law_purse T.i__law_purse .nil pass0 (@pa_out _ _ _ (@pa_c _ _ _ _ _ (pv 0) (@pa_c _ _ _ _ _ (pv 4) pa_n rfl) rfl))) (@pa_c _ _ _ _ _ (pv 1) pa_n rfl) rfl))) pa_n rfl))))))) (@bl_c _ _ _ _ _ _ (ps_set (i := 5) nd rfl (by first | exact Or.inl rfl | exact Or.inr rfl) (pe_call G__law_rows (hr.mono (by decide)) rfl T.m__law_rows T.k__law_rows T.i__law_rows .nil pass0 (@pa_out _ _ _ (@pa_c _ _ _ _ _ (pv 2) (@pa_c _ _ _ _ _ (pv 1) (@pa_c _ _ _ _ _ (pv 3) pa_n rfl) rfl) rfl)))) (@bl_c _ _ _ _ _ _ (ps_set (i := 6) nd rfl (by first | exact Or.inl rfl | exact Or.inr rfl) (@pe_lst _ _ _ _ (@pa_out _ _ _ (@pa_c _ _ _ _ _ (pe_callTy (call_list_of' rfl) (by rfl) T.b_list PyProof.Rows.boot_list (@pa_out _ _ _ (@pa_c _ _ _ _ _ (pv 2) pa_n rfl))) (@pa_c _ _ _ _ _ (pe_callTy (call_list_of' rfl) (by rfl) T.b_list PyProof.Rows.boot_list (@pa_out _ _ _ (@pa_c _ _ _ _ _ (pv 3) pa_n rfl))) pa_n rfl) rfl)))) (@bl_c _ _ _ _ _ _ (ps_set (i := 7) nd rfl (by first | exact Or.inl rfl | exact Or.inr rfl) (pe_call G_show_all (hr.mono (by decide)) rfl T.m_show_all T.k_show_all T.i_show_all .nil pass0 (@pa_out _ _ _ (@pa_c _ _ _ _ _ (@pe_ix _ _ _ _ _ _ _ (ix_list' rfl) (pv 6) pe_int (fun _ _ => rfl)) (@pa_c _ _ _ _ _ (pv 1) (@pa_c _ _ _ _ _ (@pe_ix _ _ _ _ _ _ _ (ix_list' rfl) (pv 6) pe_int (fun _ _ => rfl)) pa_n rfl) rfl) rfl)))) (@bl_c _ _ _ _ _ _ (@ps_if _ _ _ _ _ _ _ _ (@PW.pt _ _ _ (@pw_or _ _ _ _ _ _ _ (@pt_not _ _ _ _ (pt_val (pe_callB (call_isinst) (by rfl) T.b_isinstance PyProof.Rows.boot_isinstance (@pa_out _ _ _ (@pa_c _ _ _ _ _ (pv 7) (@pa_c _ _ _ _ _ (pe_bltn (v := V.ty "list") rfl T.b_list PyProof.Rows.boot_list rfl) pa_n rfl) rfl))))) (@pw_or1 _ _ _ _ (@pt_cmpR _ _ _ _ _ _ _ _ (op_neE hu) (pv 7) (pv 5) (nomark _))))) (@bl_out _ _ _ (@bl_1 _ _ _ (@ps_ret _ _ _ _ pe_bl))) pss_nil) (@bl_c _ _ _ _ _ _ (@ps_if _ _ _ _ _ _ _ _ (@pt_cmpR _ _ _ _ _ _ _ _ (op_neE hu) (pv 6) (@pe_lst _ _ _ _ (@pa_out _ _ _ (@pa_c _ _ _ _ _ (pv 2) (@pa_c _ _ _ _ _ (pv 3) pa_n rfl) rfl))) (nomark _)) (@bl_out _ _ _ (@bl_1 _ _ _ (@ps_ret _ _ _ _ pe_bl))) pss_nil) (@bl_c _ _ _ _ _ _ (ps_asg pe_str (pg_sub (@pe_ix _ _ _ _ _ _ _ (ix_list' rfl) (pv 6) pe_int (fun _ _ => rfl)) pe_int set_list)) (@bl_c _ _ _ _ _ _ (ps_expr (pe_bm0 PySem.F.plainAttrs_list PySem.F.slot_list_clear PySem.F.type_list_clear mt_clear (@pe_ix _ _ _ _ _ _ _ (ix_list' rfl) (pv 6) pe_int (fun _ _ => rfl)))) (@bl_c _ _ _ _ _ _ (@ps_if _ _ _ _ _ _ _ _ (@pt_cmpR _ _ _ _ _ _ _ _ (op_neE hu) (pv 7) (pv 5) (nomark _)) (@bl_out _ _ _ (@bl_1 _ _ _ (@ps_ret _ _ _ _ pe_bl))) pss_nil) (@bl_c _ _ _ _ _ _ (ps_expr (pe_bm0 PySem.F.plainAttrs_list PySem.F.slot_list_clear PySem.F.type_list_clear mt_clear (pv 7))) (@bl_1 _ _ _ (@ps_ret _ _ _ _ (@pe_cmpR _ _ _ _ _ _ _ _ (op_eqE hu) (pe_call G_show_all (hr.mono (by decide)) rfl T.m_show_all T.k_show_all T.i_show_all .nil pass0 (@pa_out _ _ _ (@pa_c _ _ _ _ _ (pv 2) (@pa_c _ _ _ _ _ (pv 1) (@pa_c _ _ _ _ _ (pv 3) pa_n rfl) rfl) rfl))) (pv 5) (nomark _)))))))))))))))))), ?_⟩
    have line : 100002 ≤ sizeLine := by rw [sizeLine_eq]; decide
    refine ⟨_, rfl, sa, ns0, 0, rfl, hS, by omega, fun p H1 hp pu s1 => ⟨p, 12, 60, rfl, by decide, by decide, by decide, pu, fun b rooms tr tm ps H2 g2 hb r1 r12 rr gd lps => ?_⟩⟩
    have s2 : Same H H2 := But.same hp s1 g2.1
    have r12' : rooms.length ≤ 12 := by omega
    refine ⟨_, rfl, sa, ns0, 1, rfl, s2.seq hS, by omega, fun p2 H3 hp2 pu2 s3 => ?_⟩
    have hb3 := hb.same s3
    refine ⟨_, rfl, b, _, _, _, rfl, rfl, SqT.of hb3.book, rfl, tr, _, rfl, .inr (SqT.of hb3.rooms), p2, rooms.length, (by rw [List.length_map]; rfl), r1, r12', pu2, fun nl ns H4 g4 fnl kn lns n100 => ?_⟩
    have s24 : Same H2 H4 := But.same hp2 s3 g4.1
    have s4 := s2.trans s24
    have hb4 := hb.same s24
    clear hp hp2 pu pu2 s1 g2 s3 hb3 g4 s24 hb
    refine ⟨by show 0 ≤ sizeLine; omega, fun ll hll => ?_⟩
    have s5 := same_new (o := HO.lst []) hll
    have k5 : upd H4 ll (HO.lst []) ll = some (.lst ([] : List V)) := upd_same
    generalize upd H4 ll (HO.lst []) = H5 at s5 k5 ⊢
    refine ⟨_, rfl, sa, _, rfl, .inl ((s4.trans s5).seq hS), _, _, rfl, _, _, rfl, ?_, ?_⟩
    · refine ⟨by decide, by decide, ?_, ?_⟩
      · split <;> omega
      · rw [List.length_map]; split <;> omega
    refine for_range (lo := 2) (fun i σ H8 => ∃ ls, (∃ v4, σ = [some (.ref sa), some (.ref b), some (.ref nl), some (.ref ll), v4, none, none, none]) ∧ Same H4 H8 ∧ LetsL H8 ll ls ∧ (∀ l ∈ ls, LRow l.2 rooms.length) ∧ ls.length = i) ⟨[], ⟨_, rfl⟩, s5, ⟨k5, fun _ z => nomatch z⟩, (fun _ z => nomatch z), rfl⟩ ?_ ?_
    · clear s5 k5
      rintro i σ H8 hi ⟨ls, ⟨v4, rfl⟩, s8, hL8, lr8, lls⟩
      have i60 : i < 41 := by
        rw [List.length_map] at hi
        revert hi
        split <;> intro h <;> omega
      refine ⟨_, rfl, .inl ⟨rfl, _, SqL.of hL8.1⟩, ?_⟩
      refine ⟨_, rfl, _, rfl, sa, ns0, 2 + i, by simp, (s4.trans s8).seq hS, by omega, fun p2 H9 hp2 pu9 s9 => ?_⟩
      refine ⟨_, rfl, p2, b, rooms, tr, tm, ps, rfl, (hb4.same s8).same s9, r1, by omega, gd, pu9, fun t s0 a0 w0 z0 HA gA ht s1' s2' w1' w2' a1' a2' z1' z2' => ?_⟩
      obtain ⟨s0, rfl⟩ := Int.eq_ofNat_of_zero_le s1'
      obtain ⟨w0, rfl⟩ := Int.eq_ofNat_of_zero_le w1'
      have sA : Same H8 HA := But.same hp2 s9 gA.1
      have hLA := hL8.same sA
      have tA := Tups.set (o := HO.lst ((ls.map fun x => V.ref x.1) ++ [V.ref t])) hLA.1
      refine ⟨ll, _, _, rfl, rfl, hLA.1, by rw [List.length_map]; omega, ls ++ [(t, ⟨s0, w0, a0, z0⟩)], ⟨_, rfl⟩, Same.put hll (s8.trans sA), ⟨by rw [upd_same, List.map_append]; rfl, fun x hx => ?_⟩, fun x hx => ?_, by rw [List.length_append, lls]; rfl⟩
      · rcases List.mem_append.mp hx with h | h
        · exact tA _ _ (hLA.2 x h)
        · cases List.mem_singleton.mp h
          exact tA _ _ ht
      · rcases List.mem_append.mp hx with h | h
        · exact lr8 x h
        · cases List.mem_singleton.mp h
          exact ⟨by show s0 < rooms.length; omega, by show w0 < rooms.length; omega, by show -(10 ^ 12) ≤ a0; omega, by show a0 ≤ 10 ^ 12; omega, by show -(10 ^ 12) ≤ z0; omega, by show z0 ≤ 10 ^ 12; omega⟩
    rintro σ H6 ⟨ls, ⟨v4, rfl⟩, s6, hL6, lr6, lls⟩
    have l41 : ls.length ≤ 41 := by
      rw [lls, List.length_map]
      split <;> omega
    clear lls s5 k5
    have hb6 := hb4.same s6
    have kn6 := s6 _ _ kn
    refine ⟨_, rfl, _, rfl, _, rfl, nl, b, ll, ns, ls, rooms, tr, tm, ps, rfl, kn6, hb6, lns, r12', n100, rr, gd, hL6, l41, lr6, fun du H7 s7 fdu kdu => ?_⟩
    have kn7 := s7 _ _ kn6
    have hL7 := hL6.same s7
    refine ⟨_, rfl, nl, _, rfl, .inl (SqL.of kn7), fun h0 hh0 => ?_⟩
    have s8 := same_new (o := HO.lst (ns.map V.str)) hh0
    have kh0 : upd H7 h0 (HO.lst (ns.map V.str)) h0 = some (.lst (ns.map V.str)) := upd_same
    generalize upd H7 h0 (HO.lst (ns.map V.str)) = H8 at s8 kh0 ⊢
    have hL8 := hL7.same s8
    refine ⟨_, rfl, ll, _, rfl, .inl (SqL.of hL8.1), fun h1 hh1 => ?_⟩
    have s9 := same_new (o := HO.lst (ls.map fun x => V.ref x.1)) hh1
    have kh1 : upd H8 h1 (HO.lst (ls.map fun x => V.ref x.1)) h1 = some (.lst (ls.map fun x => V.ref x.1)) := upd_same
    generalize upd H8 h1 (HO.lst (ls.map fun x => V.ref x.1)) = H9 at s9 kh1 ⊢
    refine ⟨by show 2 ≤ sizeLine; omega, fun hd hhd => ?_⟩
    have s10 := same_new (o := HO.lst [V.ref h0, V.ref h1]) hhd
    have khd : upd H9 hd (HO.lst [V.ref h0, V.ref h1]) hd = some (.lst [V.ref h0, V.ref h1]) := upd_same
    generalize upd H9 hd (HO.lst [V.ref h0, V.ref h1]) = H10 at s10 khd ⊢
    have s610 := s7.trans (s8.trans (s9.trans s10))
    have kh0' := s10 _ _ (s9 _ _ kh0)
    have kh1' := s10 _ _ kh1
    have kdu' := (s8.trans (s9.trans s10)) _ _ kdu
    have hL10 := hL6.same s610
    have kn10 := s610 _ _ kn6
    have rfs : ∀ x ∈ (ls.map fun x => V.ref x.1), ∃ a, x = V.ref a := fun x hx => by obtain ⟨y, _, rfl⟩ := List.mem_map.mp hx; exact ⟨_, rfl⟩
    refine ⟨_, rfl, hd, _, _, _, rfl, rfl, SqL.of khd, rfl, _, rfl, _, rfl, hd, _, _, _, rfl, rfl, SqL.of khd, rfl, h0, b, h1, ns, ls, rooms, tr, tm, ps, rfl, kh0', hb6.same s610, lns, r12', n100, rr, gd, ⟨kh1', hL10.2⟩, l41, lr6, fun to H11 s11 fto kto => ?_⟩
    refine ⟨_, rfl, _, "list", "list", rfl, tyS_lst kto, by simp, _, rfl, iteB0 rfl ⟨_, rfl, _, rfl, ne_strsL kto (s11 _ _ kdu') ⟨_, rfl, iteB0 rfl ?_⟩⟩⟩
    refine ⟨_, rfl, _, rfl, _, rfl, by show 2 ≤ sizeLine; omega, fun hx hhx => ?_⟩
    have s12 := same_new (o := HO.lst [V.ref nl, V.ref ll]) hhx
    have khx : upd H11 hx (HO.lst [V.ref nl, V.ref ll]) hx = some (.lst [V.ref nl, V.ref ll]) := upd_same
    generalize upd H11 hx (HO.lst [V.ref nl, V.ref ll]) = H12 at s12 khx ⊢
    have s1012 := s11.trans s12
    refine ne_twoL (s1012 _ _ khd) khx (s1012 _ _ kh0') (s1012 _ _ kn10) (s1012 _ _ kh1') (s1012 _ _ hL10.1) rfs ⟨_, rfl, iteB0 rfl ?_⟩
    have f0 : H7 h0 = none := hh0
    have f1 : H7 h1 = none := s8.free hh1
    have f2 : H7 to = none := (s8.trans (s9.trans s10)).free fto
    have n0d : hd ≠ h0 := fun z => by have := s9 _ _ kh0; rw [← z, hhd] at this; cases this
    have n01 : h1 ≠ h0 := fun z => by rw [← z, hh1] at kh0; cases kh0
    have nt0 : to ≠ h0 := fun z => by rw [← z, fto] at kh0'; cases kh0'
    have n1d : hd ≠ h1 := fun z => by rw [← z, hhd] at kh1; cases kh1
    have nt1 : to ≠ h1 := fun z => by rw [← z, fto] at kh1'; cases kh1'
    have s712 : Same H7 H12 := (s8.trans (s9.trans s10)).trans s1012
    have kh012 := s1012 _ _ kh0'
    have kto12 := s12 _ _ kto
    have khd12 := s1012 _ _ khd
    have kh112 := s1012 _ _ kh1'
    have ix0 : ixN (ns.map V.str).length 0 = some 0 := by unfold ixN; rw [if_pos (by decide), if_pos (by rw [List.length_map]; omega)]; rfl
    refine ⟨_, rfl, hd, _, _, _, rfl, rfl, SqL.of khd12, rfl, h0, _, _, 0, rfl, rfl, kh012, ix0, ?_⟩
    have b13 : But h0 H12 (upd H12 h0 (HO.lst ((ns.map V.str).set 0 (V.str (Str.ofString "else"))))) := But.set
    generalize upd H12 h0 (HO.lst ((ns.map V.str).set 0 (V.str (Str.ofString "else")))) = H13 at b13 ⊢
    have s713 := But.same f0 s712 b13
    have kh113 := b13 _ _ n01 kh112
    refine ⟨_, rfl, hd, _, _, _, rfl, rfl, SqL.of (b13 _ _ n0d khd12), rfl, .inl ⟨rfl, _, SqL.of kh113⟩, h1, _, rfl, rfl, kh113, ?_⟩
    have b14 : But h1 H13 (upd H13 h1 (HO.lst [])) := But.set
    generalize upd H13 h1 (HO.lst []) = H14 at b14 ⊢
    have s714 := But.same f1 s713 b14
    have kto14 := b14 _ _ nt1 (b13 _ _ nt0 kto12)
    refine ⟨_, rfl, _, rfl, ne_strsL kto14 (s714 _ _ kdu) ⟨_, rfl, iteB0 rfl ?_⟩⟩
    refine ⟨_, rfl, .inl ⟨rfl, _, SqL.of kto14⟩, to, _, rfl, rfl, kto14, ?_⟩
    have b15 : But to H14 (upd H14 to (HO.lst [])) := But.set
    generalize upd H14 to (HO.lst []) = H15 at b15 ⊢
    have s715 := But.same f2 s714 b15
    exact ⟨_, rfl, _, rfl, _, rfl, nl, b, ll, ns, ls, rooms, tr, tm, ps, rfl, s715 _ _ kn7, (hb6.same s7).same s715, lns, r12', n100, rr, gd, hL7.same s715, l41, lr6, fun t2 H16 s16 ft kt2 => ⟨_, rfl, ne_strsL kt2 (s16 _ _ (s715 _ _ kdu)) (q _)⟩⟩
end
theorem all_mk {l : PySem.W.OpenLaw} {w : World} {K : PySem.W.Frag} {h : Heap} {mg : Str → Option Value} {fa f__law_purse f__law_take f__law_rooms f__law_step f__law_meetings f__law_book f__law_far f__law_time f__law_letter f_show_all f__law_names f__law_rows f_law : Addr} (X : K.In h) (G : h.Ns mainGlobals mg) (hfa : mg "law" = some (.ref fa))
    {d__law_purse d__law_take d__law_rooms d__law_step d__law_meetings d__law_book d__law_far d__law_time d__law_letter d_show_all d__law_names d__law_rows d_law : FuncData}
    (a__law_purse : PySem.W.nsIn K mainGlobals "_law_purse" = some (some (.ref f__law_purse))) (F__law_purse : Fun K "_law_purse" "_law_purse" s__law_purse f__law_purse d__law_purse)
    (a__law_take : PySem.W.nsIn K mainGlobals "_law_take" = some (some (.ref f__law_take))) (F__law_take : Fun K "_law_take" "_law_take" s__law_take f__law_take d__law_take)
    (a__law_rooms : PySem.W.nsIn K mainGlobals "_law_rooms" = some (some (.ref f__law_rooms))) (F__law_rooms : Fun K "_law_rooms" "_law_rooms" s__law_rooms f__law_rooms d__law_rooms)
    (a__law_step : PySem.W.nsIn K mainGlobals "_law_step" = some (some (.ref f__law_step))) (F__law_step : Fun K "_law_step" "_law_step" s__law_step f__law_step d__law_step)
    (a__law_meetings : PySem.W.nsIn K mainGlobals "_law_meetings" = some (some (.ref f__law_meetings))) (F__law_meetings : Fun K "_law_meetings" "_law_meetings" s__law_meetings f__law_meetings d__law_meetings)
    (a__law_book : PySem.W.nsIn K mainGlobals "_law_book" = some (some (.ref f__law_book))) (F__law_book : Fun K "_law_book" "_law_book" s__law_book f__law_book d__law_book)
    (a__law_far : PySem.W.nsIn K mainGlobals "_law_far" = some (some (.ref f__law_far))) (F__law_far : Fun K "_law_far" "_law_far" s__law_far f__law_far d__law_far)
    (a__law_time : PySem.W.nsIn K mainGlobals "_law_time" = some (some (.ref f__law_time))) (F__law_time : Fun K "_law_time" "_law_time" s__law_time f__law_time d__law_time)
    (a__law_letter : PySem.W.nsIn K mainGlobals "_law_letter" = some (some (.ref f__law_letter))) (F__law_letter : Fun K "_law_letter" "_law_letter" s__law_letter f__law_letter d__law_letter)
    (a_show_all : PySem.W.nsIn K mainGlobals "show_all" = some (some (.ref f_show_all))) (F_show_all : Fun K "show_all" "show_all" s_show_all f_show_all d_show_all)
    (a__law_names : PySem.W.nsIn K mainGlobals "_law_names" = some (some (.ref f__law_names))) (F__law_names : Fun K "_law_names" "_law_names" s__law_names f__law_names d__law_names)
    (a__law_rows : PySem.W.nsIn K mainGlobals "_law_rows" = some (some (.ref f__law_rows))) (F__law_rows : Fun K "_law_rows" "_law_rows" s__law_rows f__law_rows d__law_rows)
    (a_law : PySem.W.nsIn K mainGlobals "law" = some (some (.ref f_law))) (F_law : Fun K "law" "law" s_law f_law d_law)
    (z_int : PySem.W.nsIn K mainGlobals "int" = some none)
    (z_isinstance : PySem.W.nsIn K mainGlobals "isinstance" = some none)
    (z_len : PySem.W.nsIn K mainGlobals "len" = some none)
    (z_list : PySem.W.nsIn K mainGlobals "list" = some none)
    (z_max : PySem.W.nsIn K mainGlobals "max" = some none)
    (z_min : PySem.W.nsIn K mainGlobals "min" = some none)
    (z_range : PySem.W.nsIn K mainGlobals "range" = some none)
    (z_sorted : PySem.W.nsIn K mainGlobals "sorted" = some none)
    (z_str : PySem.W.nsIn K mainGlobals "str" = some none)
    (z_tuple : PySem.W.nsIn K mainGlobals "tuple" = some none)
    (z_zip : PySem.W.nsIn K mainGlobals "zip" = some none) :
    ∃ fd : FuncData, (∀ (s : Shared) (v : Value), BindsTo s fd ⟨[v], []⟩ [("_law_script", v)]) ∧ ∀ base : Heap, K.In base → base.Ns mainGlobals mg → FnOk l.prog w K mg base CX0 5 fa fd ["_law_script"] (spLaw K) := by
  have e := hfa.symm.trans (PySem.W.mg_of X G a_law)
  cases e
  have b__law_purse := F__law_purse.binds (ps := ["_law_script", "_law_k"]) fun _ _ _ _ _ _ us hl => us2 hl fun _ _ => rfl
  have b__law_take := F__law_take.binds (ps := ["_law_purse_here", "_law_many"]) fun _ _ _ _ _ _ us hl => us2 hl fun _ _ => rfl
  have b__law_rooms := F__law_rooms.binds (ps := ["_law_purse_here", "_law_walkers"]) fun _ _ _ _ _ _ us hl => us2 hl fun _ _ => rfl
  have b__law_step := F__law_step.binds (ps := ["_law_purse_here"]) fun _ _ _ _ _ _ us hl => us1 hl fun _ => rfl
  have b__law_meetings := F__law_meetings.binds (ps := ["_law_purse_here", "_law_walkers", "_law_most"]) fun _ _ _ _ _ _ us hl => us3 hl fun _ _ _ => rfl
  have b__law_book := F__law_book.binds (ps := ["_law_purse_here", "_law_most_walkers", "_law_most_meetings"]) fun _ _ _ _ _ _ us hl => us3 hl fun _ _ _ => rfl
  have b__law_far := F__law_far.binds (ps := ["_law_purse_here"]) fun _ _ _ _ _ _ us hl => us1 hl fun _ => rfl
  have b__law_time := F__law_time.binds (ps := ["_law_purse_here", "_law_book_here", "_law_later"]) fun _ _ _ _ _ _ us hl => us3 hl fun _ _ _ => rfl
  have b__law_letter := F__law_letter.binds (ps := ["_law_purse_here", "_law_book_here"]) fun _ _ _ _ _ _ us hl => us2 hl fun _ _ => rfl
  have b_show_all := F_show_all.binds (ps := ["names", "book", "letters"]) fun _ _ _ _ _ _ us hl => us3 hl fun _ _ _ => rfl
  have b__law_names := F__law_names.binds (ps := ["_law_purse_here", "_law_many"]) fun _ _ _ _ _ _ us hl => us2 hl fun _ _ => rfl
  have b__law_rows := F__law_rows.binds (ps := ["_law_names_here", "_law_book_here", "_law_letters_here"]) fun _ _ _ _ _ _ us hl => us3 hl fun _ _ _ => rfl
  have b_law := F_law.binds (ps := ["_law_script"]) fun _ _ _ _ _ _ us hl => us1 hl fun _ => rfl
  have T : Tx K mg ⟨f__law_purse, d__law_purse, f__law_take, d__law_take, f__law_rooms, d__law_rooms, f__law_step, d__law_step, f__law_meetings, d__law_meetings, f__law_book, d__law_book, f__law_far, d__law_far, f__law_time, d__law_time, f__law_letter, d__law_letter, f_show_all, d_show_all, f__law_names, d__law_names, f__law_rows, d__law_rows, fa, d_law⟩ := ⟨F__law_purse, b__law_purse, PySem.W.mg_of X G a__law_purse, F__law_purse.kp, F__law_take, b__law_take, PySem.W.mg_of X G a__law_take, F__law_take.kp, F__law_rooms, b__law_rooms, PySem.W.mg_of X G a__law_rooms, F__law_rooms.kp, F__law_step, b__law_step, PySem.W.mg_of X G a__law_step, F__law_step.kp, F__law_meetings, b__law_meetings, PySem.W.mg_of X G a__law_meetings, F__law_meetings.kp, F__law_book, b__law_book, PySem.W.mg_of X G a__law_book, F__law_book.kp, F__law_far, b__law_far, PySem.W.mg_of X G a__law_far, F__law_far.kp, F__law_time, b__law_time, PySem.W.mg_of X G a__law_time, F__law_time.kp, F__law_letter, b__law_letter, PySem.W.mg_of X G a__law_letter, F__law_letter.kp, F_show_all, b_show_all, PySem.W.mg_of X G a_show_all, F_show_all.kp, F__law_names, b__law_names, PySem.W.mg_of X G a__law_names, F__law_names.kp, F__law_rows, b__law_rows, PySem.W.mg_of X G a__law_rows, F__law_rows.kp, F_law, b_law, PySem.W.mg_of X G a_law, F_law.kp, PySem.W.mg_none_of X G z_int, PySem.W.mg_none_of X G z_isinstance, PySem.W.mg_none_of X G z_len, PySem.W.mg_none_of X G z_list, PySem.W.mg_none_of X G z_max, PySem.W.mg_none_of X G z_min, PySem.W.mg_none_of X G z_range, PySem.W.mg_none_of X G z_sorted, PySem.W.mg_none_of X G z_str, PySem.W.mg_none_of X G z_tuple, PySem.W.mg_none_of X G z_zip⟩
  obtain ⟨_, _, _, _, _, _, _, _, _, rfl, _, _⟩ := F_law.ex
  exact ⟨_, fun s v => .of_eq rfl, fun base _ _ => ok_law T⟩
theorem walk {l : PySem.W.OpenLaw} {q : Program} {loose : List Str} {XP : (Str → Option Value) → Heap → Prop} {YP : World → Heap → Prop} {d : DefRec} {K : Params → PySem.W.Frag} (hn : l.most = some 63) (hdf : d.params.defaults = [])
    (hY : ∀ (w : World) (h : Heap), YP w h → (K w.params).In h)
    (F : ∀ (w : World) (mg : Str → Option Value) (fa : Addr) (h : Heap), (K w.params).In h → h.Ns mainGlobals mg → mg d.name = some (.ref fa) →
      ∃ fd : FuncData, (∀ (s : Shared) (u : Value), BindsTo s fd ⟨[u], []⟩ [("_law_script", u)]) ∧ ∀ base : Heap, (K w.params).In base → base.Ns mainGlobals mg → FnOk l.prog w (K w.params) mg base CX0 5 fa fd ["_law_script"] (spLaw (K w.params))) :
    PySem.W.WalkO q loose XP YP l.row.toRowW d [] (fun f vs => PySem.call f vs) :=
  L2.walk_of (n := 63) (k := 5) (x := "_law_script") (CX := fun _ => CX0) (sp := fun w => spLaw (K w.params)) hn (by decide) hdf ⟨rfl, by decide, by decide⟩ hY F (fun _ _ a ns hl _ hS => ⟨a, ns, rfl, hS, hl, fun _ => rfl⟩) fun _ _ _ _ _ z => z
end Sm
open PySem PySem.W PyProof.Rows
set_option maxRecDepth 100000 in
set_option maxHeartbeats 0 in
theorem PySem.Challenge.cw_satchelmeet_k86_rows_shown_holds : PySem.Challenge.rw_satchelmeet_k86_rows_shown.Holds := by
  w_on; o_law; k_head; (case hw => w_witness2)
  k_fill
  refine Sm.walk (l := PySem.Challenge.rw_satchelmeet_k86_rows_shown) rfl rfl (fun w h Y => PySem.W.kIn_of Y) ?F
  case F =>
    intro w mg fa h KX G hmg
    refine' Sm.all_mk KX G hmg ?a__law_purse ?F__law_purse ?a__law_take ?F__law_take ?a__law_rooms ?F__law_rooms ?a__law_step ?F__law_step ?a__law_meetings ?F__law_meetings ?a__law_book ?F__law_book ?a__law_far ?F__law_far ?a__law_time ?F__law_time ?a__law_letter ?F__law_letter ?a_show_all ?F_show_all ?a__law_names ?F__law_names ?a__law_rows ?F__law_rows ?a_law ?F_law ?z_int ?z_isinstance ?z_len ?z_list ?z_max ?z_min ?z_range ?z_sorted ?z_str ?z_tuple ?z_zip
    (case a__law_purse => k_is)
    (case F__law_purse => refine' L2.fun_mk ?x1 ?y1 ?z1; (case x1 => k_is); (case y1 => k_is); (case z1 => k_is))
    (case a__law_take => k_is)
    (case F__law_take => refine' L2.fun_mk ?x3 ?y3 ?z3; (case x3 => k_is); (case y3 => k_is); (case z3 => k_is))
    (case a__law_rooms => k_is)
    (case F__law_rooms => refine' L2.fun_mk ?x5 ?y5 ?z5; (case x5 => k_is); (case y5 => k_is); (case z5 => k_is))
    (case a__law_step => k_is)
    (case F__law_step => refine' L2.fun_mk ?x7 ?y7 ?z7; (case x7 => k_is); (case y7 => k_is); (case z7 => k_is))
    (case a__law_meetings => k_is)
    (case F__law_meetings => refine' L2.fun_mk ?x9 ?y9 ?z9; (case x9 => k_is); (case y9 => k_is); (case z9 => k_is))
    (case a__law_book => k_is)
    (case F__law_book => refine' L2.fun_mk ?x11 ?y11 ?z11; (case x11 => k_is); (case y11 => k_is); (case z11 => k_is))
    (case a__law_far => k_is)
    (case F__law_far => refine' L2.fun_mk ?x13 ?y13 ?z13; (case x13 => k_is); (case y13 => k_is); (case z13 => k_is))
    (case a__law_time => k_is)
    (case F__law_time => refine' L2.fun_mk ?x15 ?y15 ?z15; (case x15 => k_is); (case y15 => k_is); (case z15 => k_is))
    (case a__law_letter => k_is)
    (case F__law_letter => refine' L2.fun_mk ?x17 ?y17 ?z17; (case x17 => k_is); (case y17 => k_is); (case z17 => k_is))
    (case a_show_all => k_is)
    (case F_show_all => refine' L2.fun_mk ?x19 ?y19 ?z19; (case x19 => k_is); (case y19 => k_is); (case z19 => k_is))
    (case a__law_names => k_is)
    (case F__law_names => refine' L2.fun_mk ?x21 ?y21 ?z21; (case x21 => k_is); (case y21 => k_is); (case z21 => k_is))
    (case a__law_rows => k_is)
    (case F__law_rows => refine' L2.fun_mk ?x23 ?y23 ?z23; (case x23 => k_is); (case y23 => k_is); (case z23 => k_is))
    (case a_law => k_is)
    (case F_law => refine' L2.fun_mk ?x25 ?y25 ?z25; (case x25 => k_is); (case y25 => k_is); (case z25 => k_is))
    (case z_int => k_is)
    (case z_isinstance => k_is)
    (case z_len => k_is)
    (case z_list => k_is)
    (case z_max => k_is)
    (case z_min => k_is)
    (case z_range => k_is)
    (case z_sorted => k_is)
    (case z_str => k_is)
    (case z_tuple => k_is)
    (case z_zip => k_is)

