import PyProof.Rows.All
import Wide.All
import OpenK.AllK
import Wide.FinOn
import Lean
import PyProof.EqAt
import PyProof.EqKinds
import PyProof.TupleCall
import PyProof.StrLawsIn
import PySem.Challenge.RW_trunksay_k09_trees_written_and_read
-- CHANGE: your row's module here, as the last of these rows
set_option Elab.async false
set_option linter.all false
set_option maxRecDepth 100000
/-! THE HAND LAYER, for ints, bools, texts, own classes, LISTS and tuples (index, slices, in, append, pop ..), calls, loops. Paste it whole ahead of your own text; what your proof does not reach may be deleted. -/
namespace L2
open PySem PySem.Spec PyProof.Rows

/-- a key: an int or a str -/
abbrev Key := Sum Int Str
def keyIs : Key → Value → Bool
  | .inl k, v => Value.isInt k v
  | .inr x, v => Value.isStrOf x v
def keyH (w : World) : Key → Int
  | .inl k => hashInt k
  | .inr x => hashStr w x
theorem keyIs_shape : ∀ {k : Key} {v : Value}, keyIs k v = true → (∃ i t, k = Sum.inl i ∧ v = Value.int i t) ∨ (∃ x t, k = Sum.inr x ∧ v = Value.str x t)
  | .inl i, v, h => by
    obtain ⟨t, e⟩ := Value.isInt_shape (k := i) (v := v) h
    exact .inl ⟨i, t, rfl, e⟩
  | .inr x, v, h => by
    obtain ⟨t, e⟩ := Value.isStrOf_shape (x := x) (v := v) h
    exact .inr ⟨x, t, rfl, e⟩
theorem keyIs_int (i : Int) (t : Tok) : keyIs (.inl i) (.int i t) = true := by simp [keyIs, Value.isInt]
theorem keyIs_str (x : Str) (t : Tok) : keyIs (.inr x) (.str x t) = true := by simp [keyIs, Value.isStrOf]
theorem key_ll (a b : Int) : decide ((Sum.inl a : Key) = Sum.inl b) = (a == b) := by
  by_cases e : a = b
  · subst e; simp
  · have h : ¬ (Sum.inl a : Key) = Sum.inl b := fun q => e (Sum.inl.inj q)
    rw [decide_eq_false h]
    exact (beq_eq_false_iff_ne.mpr e).symm
theorem key_rr (a b : Str) : decide ((Sum.inr a : Key) = Sum.inr b) = decide (a = b) := by
  by_cases e : a = b
  · subst e; simp
  · have h : ¬ (Sum.inr a : Key) = Sum.inr b := fun q => e (Sum.inr.inj q)
    rw [decide_eq_false h, decide_eq_false e]
theorem key_lr (a : Int) (b : Str) : decide ((Sum.inl a : Key) = Sum.inr b) = false := decide_eq_false (fun q => nomatch q)
theorem key_rl (a : Str) (b : Int) : decide ((Sum.inr a : Key) = Sum.inl b) = false := decide_eq_false (fun q => nomatch q)

def mixKind (prog : Program) (w : World) : PySem.KeyKind prog w Key where
  is := keyIs
  hash := keyH w
  inj := fun v a b ha hb => by
    rcases keyIs_shape ha with ⟨i, t, rfl, rfl⟩ | ⟨x, t, rfl, rfl⟩
    · rcases keyIs_shape hb with ⟨j, u, rfl, e⟩ | ⟨y, u, rfl, e⟩
      · injection e with e1 _; rw [e1]
      · exact nomatch e
    · rcases keyIs_shape hb with ⟨j, u, rfl, e⟩ | ⟨y, u, rfl, e⟩
      · exact nomatch e
      · injection e with e1 _; rw [e1]
  byValue := fun k v h => by
    rcases keyIs_shape h with ⟨i, t, rfl, rfl⟩ | ⟨x, t, rfl, rfl⟩ <;> rfl
  pyHash := fun hv h => by
    rcases keyIs_shape hv with ⟨i, t, rfl, rfl⟩ | ⟨x, t, rfl, rfl⟩
    · exact wpAny_pyHash_int h
    · exact wpAny_pyHash_str h
  eqBool := fun hu hv h => by
    rcases keyIs_shape hu with ⟨i, t, rfl, rfl⟩ | ⟨x, t, rfl, rfl⟩
    · rcases keyIs_shape hv with ⟨j, u, rfl, rfl⟩ | ⟨y, u, rfl, rfl⟩
      · rw [key_ll] at h; exact wpAny_eqBool_int h
      · rw [key_lr] at h; exact SeqAt.EqAt.int_str i t y u _ _ _ _ h
    · rcases keyIs_shape hv with ⟨j, u, rfl, rfl⟩ | ⟨y, u, rfl, rfl⟩
      · rw [key_rl] at h; exact SeqAt.EqAt.str_int x t j u _ _ _ _ h
      · rw [key_rr] at h; exact wpAny_eqBool_str h
  «strs» := fun k x t v h => by
    rcases keyIs_shape h with ⟨i, u, rfl, e⟩ | ⟨y, u, rfl, e⟩
    · exact nomatch e
    · injection e with e1 _
      subst e1
      cases v <;> rfl

theorem mixKind_is (prog : Program) (w : World) (k : Key) (v : Value) : (mixKind prog w).is k v = keyIs k v := rfl
theorem mixKind_int (prog : Program) (w : World) (i : Int) (t : Tok) : (mixKind prog w).is (.inl i) (.int i t) = true := keyIs_int i t
theorem mixKind_str (prog : Program) (w : World) (x : Str) (t : Tok) : (mixKind prog w).is (.inr x) (.str x t) = true := keyIs_str x t
end L2

namespace L2
open PySem PySem.Spec PyProof.Rows

/-- a value, without the heap -/
inductive V where
  | non | bl (b : Bool) | int (i : Int) | str (x : Str) | byt (b : Array UInt8) | flt (b : UInt64) | ref (a : Addr) | ty (n : String)
  deriving DecidableEq

def RelV : V → Value → Prop
  | .non, u => u = Value.none
  | .bl b, u => u = Value.bool b
  | .int i, u => ∃ t, u = Value.int i t
  | .str x, u => ∃ t, u = Value.str x t
  | .byt b, u => ∃ t, u = Value.bytes b t
  | .flt b, u => ∃ t, u = Value.float b t
  | .ref a, u => u = Value.ref a
  | .ty n, u => u = Value.type n

abbrev Vals : List V → List Value → Prop := Paired RelV
theorem Vals.length {xs : List V} {us : List Value} (r : Vals xs us) : xs.length = us.length := Paired.length r
theorem Vals.get : ∀ {xs : List V} {us : List Value} {i : Nat} {x : V}, Vals xs us → xs[i]? = some x → ∃ u, us[i]? = some u ∧ RelV x u
  | _, _, _, _, .nil, e => by simp at e
  | _, _, 0, _, .cons r _, e => by simp at e; subst e; exact ⟨_, rfl, r⟩
  | _, _, i + 1, x, .cons _ t, e => by
    obtain ⟨u, h1, h2⟩ := Vals.get (i := i) (x := x) t (by simpa using e)
    exact ⟨u, by simpa using h1, h2⟩
theorem Vals.set {x : V} {u : Value} (r : RelV x u) : ∀ {xs : List V} {us : List Value} (i : Nat), Vals xs us → Vals (xs.set i x) (us.set i u)
  | _, _, _, .nil => .nil
  | _, _, 0, .cons _ t => .cons r t
  | _, _, i + 1, .cons q t => .cons q (Vals.set r i t)
theorem Vals.append : ∀ {xs ys : List V} {us ws : List Value}, Vals xs us → Vals ys ws → Vals (xs ++ ys) (us ++ ws)
  | _, _, _, _, .nil, s => s
  | _, _, _, _, .cons r t, s => .cons r (Vals.append t s)
theorem Vals.take : ∀ {xs : List V} {us : List Value} (n : Nat), Vals xs us → Vals (xs.take n) (us.take n)
  | _, _, 0, _ => .nil
  | _, _, _ + 1, .nil => .nil
  | _, _, n + 1, .cons r t => .cons r (Vals.take n t)
theorem Vals.drop : ∀ {xs : List V} {us : List Value} (n : Nat), Vals xs us → Vals (xs.drop n) (us.drop n)
  | _, _, 0, r => r
  | _, _, _ + 1, .nil => .nil
  | _, _, n + 1, .cons _ t => Vals.drop n t
theorem Vals.none_of : ∀ {xs : List V} {us : List Value} {i : Nat}, Vals xs us → xs[i]? = none → us[i]? = none := fun {xs us i} r e => by
  have h1 := r.length
  have h2 : xs.length ≤ i := List.getElem?_eq_none_iff.mp e
  exact List.getElem?_eq_none_iff.mpr (by omega)

def RelO : Option V → Option Value → Prop
  | some v, some u => RelV v u
  | none, none => True
  | _, _ => False
def KV {κ : Type} : List (κ × V) → List (κ × Value) → Prop := Paired fun (p : κ × V) (q : κ × Value) => p.1 = q.1 ∧ RelV p.2 q.2

/-- a key of a dict (00_mix): an int or a text -/
def kV : Key → V
  | .inl i => .int i
  | .inr x => .str x

/-- what stands at a tracked address -/
inductive HO where
  /-- a list -/
  | lst (xs : List V)
  /-- a tuple (never changes) -/
  | tup (xs : List V)
  /-- a dict whose keys are ints and texts; one whose keys are tuples of ints and texts (the empty one is both) -/
  | dK (kvs : List (Key × V)) | dT (kvs : List (List Key × V))
  /-- a set of ints: its members, its size -/
  | set (S : Int → Bool) (n : Nat)
  /-- an instance of the class at C, its dict at dx, its attributes -/
  | ins (C dx : Addr) (fs : List (Str × V))
  /-- the dict of the instance at x -/
  | own (x : Addr)
  /-- the dict of an exception -/
  | xd (fs : List (Str × V))
  /-- a bound method, f of x -/
  | met (f x : Addr)
  /-- a range object lo, lo + 1, .. below hi -/
  | rng (lo hi : Int)
  /-- a thing that is known to the object (the script; a dict while a loop walks it): read, never written while it is so -/
  | frz (o : Obj) (u : HO)
  /-- a code object's table -/
  | tbl (ps : Array Value)
  /-- any other thing, by what is true of its one object (a def of one's own: SetO a S n := HO.ext fun h => ..) -/
  | ext (φ : Heap → Prop)

abbrev Hp := Addr → Option HO
def upd (H : Hp) (a : Addr) (o : HO) : Hp := fun b => if b = a then some o else H b
theorem upd_same {H : Hp} {a : Addr} {o : HO} : upd H a o a = some o := by unfold upd; rw [if_pos rfl]
theorem upd_ne {H : Hp} {a b : Addr} {o : HO} (h : b ≠ a) : upd H a o b = H b := by unfold upd; rw [if_neg h]
theorem upd_upd {H : Hp} {a : Addr} {o u : HO} : upd (upd H a o) a u = upd H a u := by
  funext b; unfold upd; split <;> rfl
/-- two objects of different content stand apart -/
theorem ne_of {H : Hp} {a b : Addr} {o u : HO} (h : H a = some o) (h' : H b = some u) (d : o ≠ u) : a ≠ b := by
  intro e; subst e; rw [h] at h'; exact d (Option.some.inj h')
theorem ne_of_none {H : Hp} {a b : Addr} {o : HO} (h : H a = some o) (h' : H b = none) : a ≠ b := by
  intro e; subst e; rw [h] at h'; cases h'

section
variable (P : Program) (w : World)
def ObjOk (H : Hp) (h : Heap) (a : Addr) : HO → Prop
  | .lst xs => xs.length ≤ sizeLine ∧ ∃ (its : List Value) (n : Nat), Vals xs its ∧ h.get? a = some { cls := .type "list", data := .seq its.toArray n }
  | .tup xs => xs.length ≤ sizeLine ∧ ∃ its : List Value, Vals xs its ∧ IsTup h a its.toArray
  | .dK kvs => kvs.length ≤ sizeLine ∧ (a == sysModules) = false ∧ ∃ vs, KV kvs vs ∧ h.DictOf (mixKind P w) a vs
  | .dT kvs => kvs.length ≤ sizeLine ∧ (a == sysModules) = false ∧ ∃ xs : List (List Key × Addr × Value),
      Paired (fun (p : List Key × V) (q : List Key × Addr × Value) => p.1 = q.1 ∧ H q.2.1 = some (.tup (p.1.map kV)) ∧ RelV p.2 q.2.2) kvs xs ∧
      ∃ o es ep, h.get? a = some o ∧ o.ExactDict ∧ o.data = .dict es ep ∧ es.toList = xs.map (entryOfKey (tupleKind (mixKind P w))) ∧ (xs.map (·.1)).Nodup
  | .set S n => h.SetOf (intKind P w) a S n
  | .ins C dx fs => H dx = some (.own a) ∧ fs.length ≤ 1000 ∧ dx ≠ a ∧ h.get? a = some (PySem.W.instObj C dx) ∧
      ∃ mA, h.Ns1 dx mA ∧ (∀ f, RelO (fs.lookup f) (mA f)) ∧ PySem.Within mA (fs.map (·.1))
  | .own _ => ∃ o, h.get? a = some o
  | .xd fs => ∃ mA, h.Ns1 a mA ∧ ∀ f, RelO (fs.lookup f) (mA f)
  | .rng lo hi => ∃ t u v, h.get? a = some { cls := .type "range", data := .fields #[.int lo t, .int hi u, .int 1 v] }
  | .frz o u => h.get? a = some o ∧ ObjOk H h a u
  | .tbl ps => h.get? a = some { cls := .none, data := .fields ps }
  | .met f x => h.get? a = some (PySem.W.methodObj (.ref f) (.ref x))
  | .ext φ => φ h ∧ (∃ o, h.get? a = some o) ∧ ∀ h1 h2 : Heap, φ h1 → (∀ o, h1.get? a = some o → h2.get? a = some o) → φ h2
/-- the abstract heap is held -/
def HOk (H : Hp) (h : Heap) : Prop := ∀ a o, H a = some o → ObjOk P w H h a o
end

section
variable {P : Program} {w : World} {H H' : Hp} {h h' : Heap} {a : Addr} {o : HO}
theorem ObjOk.lt (x : ObjOk P w H h a o) : a < h.objs.size := by
  cases o with
  | lst xs => obtain ⟨_, _, _, _, e⟩ := x; exact Heap.lt_size e
  | tup xs => obtain ⟨_, _, _, p⟩ := x; exact p.lt
  | dK kvs => obtain ⟨_, _, _, _, o, _, _, e, _⟩ := x; exact Heap.lt_size e
  | dT kvs => obtain ⟨_, _, _, _, o, _, _, e, _⟩ := x; exact Heap.lt_size e
  | set S n => obtain ⟨o, _, _, _, e, _⟩ := x; exact Heap.lt_size e
  | ins C dx fs => obtain ⟨_, _, _, e, _⟩ := x; exact Heap.lt_size e
  | own y => obtain ⟨_, e⟩ := x; exact Heap.lt_size e
  | xd fs => obtain ⟨_, ⟨_, _, _, e, _⟩, _⟩ := x; exact Heap.lt_size e
  | rng lo hi => obtain ⟨_, _, _, e⟩ := x; exact Heap.lt_size e
  | frz ob u => obtain ⟨e, _⟩ := x; exact Heap.lt_size e
  | tbl ps => exact Heap.lt_size (show h.get? a = some _ from x)
  | met f y => exact Heap.lt_size (show h.get? a = some _ from x)
  | ext φ => obtain ⟨_, ⟨_, e⟩, _⟩ := x; exact Heap.lt_size e
theorem Paired.mapP {α β : Type} {F G : α → β → Prop} : ∀ {l₁ : List α} {l₂ : List β}, Paired F l₁ l₂ → (∀ a b, F a b → G a b) → Paired G l₁ l₂
  | _, _, .nil, _ => .nil
  | _, _, .cons r t, f => .cons (f _ _ r) (Paired.mapP t f)
theorem Paired.imp' {α β : Type} {F G : α → β → Prop} (f : ∀ a b, F a b → G a b) {l₁ : List α} {l₂ : List β} (r : Paired F l₁ l₂) : Paired G l₁ l₂ := Paired.mapP r f
/-- what an object's description leans on: its own object, its own dict, the tuples -/
theorem ObjOk.stay (x : ObjOk P w H h a o) (k : ∀ b u, (b = a ∨ H b = some (.own a)) → h.get? b = some u → h'.get? b = some u)
    (ho : ∀ b, H b = some (.own a) → H' b = some (.own a)) (ht : ∀ b xs, H b = some (.tup xs) → H' b = some (.tup xs)) : ObjOk P w H' h' a o := by
  induction o with
  | lst xs => obtain ⟨z, its, n, r, e⟩ := x; exact ⟨z, its, n, r, k _ _ (.inl rfl) e⟩
  | tup xs => obtain ⟨z, its, r, ob, e, c⟩ := x; exact ⟨z, its, r, ob, k _ _ (.inl rfl) e, c⟩
  | dK kvs => obtain ⟨z, y, vs, r, ob, es, ep, e, c⟩ := x; exact ⟨z, y, vs, r, ob, es, ep, k _ _ (.inl rfl) e, c⟩
  | dT kvs =>
    obtain ⟨z, y, xs, r, ob, es, ep, e, c⟩ := x
    exact ⟨z, y, xs, Paired.mapP r fun p q z => ⟨z.1, ht _ _ z.2.1, z.2.2⟩, ob, es, ep, k _ _ (.inl rfl) e, c⟩
  | set S n => obtain ⟨ob, es, ep, t, e, c⟩ := x; exact ⟨ob, es, ep, t, k _ _ (.inl rfl) e, c⟩
  | ins C dx fs =>
    obtain ⟨d, z, ne, e, mA, ⟨od, es, ep, e2, c⟩, r⟩ := x
    exact ⟨ho _ d, z, ne, k _ _ (.inl rfl) e, mA, ⟨od, es, ep, k _ _ (.inr d) e2, c⟩, r⟩
  | own y => obtain ⟨ob, e⟩ := x; exact ⟨ob, k _ _ (.inl rfl) e⟩
  | xd fs => obtain ⟨mA, ⟨od, es, ep, e, c⟩, r⟩ := x; exact ⟨mA, ⟨od, es, ep, k _ _ (.inl rfl) e, c⟩, r⟩
  | rng lo hi => obtain ⟨t, u, v, e⟩ := x; exact ⟨t, u, v, k _ _ (.inl rfl) e⟩
  | frz ob u ih => obtain ⟨e, q⟩ := x; exact ⟨k _ _ (.inl rfl) e, ih q⟩
  | tbl ps =>
    have e : h.get? a = some { cls := .none, data := .fields ps } := x
    show h'.get? a = some { cls := .none, data := .fields ps }
    exact k a _ (.inl rfl) e
  | met f y =>
    have e : h.get? a = some (PySem.W.methodObj (.ref f) (.ref y)) := x
    show h'.get? a = some (PySem.W.methodObj (.ref f) (.ref y))
    exact k a _ (.inl rfl) e
  | ext φ => obtain ⟨p, ⟨o, e⟩, st⟩ := x; exact ⟨st _ _ p fun o q => k _ _ (.inl rfl) q, ⟨o, k _ _ (.inl rfl) e⟩, st⟩
theorem HOk.lt (x : HOk P w H h) (e : H a = some o) : a < h.objs.size := (x a o e).lt
theorem HOk.fresh (x : HOk P w H h) (e : h.objs.size ≤ a) : H a = none := by
  cases q : H a with
  | none => rfl
  | some u => exact absurd (Nat.lt_of_lt_of_le (x.lt q) e) (Nat.lt_irrefl _)
/-- every object of the heap is kept -/
theorem HOk.kept (x : HOk P w H h) (k : ∀ b u, h.get? b = some u → h'.get? b = some u) : HOk P w H h' := fun a o e =>
  (x a o e).stay (fun b u _ q => k b u q) (fun _ q => q) fun _ _ q => q
/-- a new object is laid and tracked -/
theorem HOk.laid (x : HOk P w H h) (k : ∀ b u, h.get? b = some u → h'.get? b = some u) (hp : h.objs.size ≤ a) (new : ObjOk P w (upd H a o) h' a o) : HOk P w (upd H a o) h' := fun b u e => by
  have hn := x.fresh hp
  by_cases hb : b = a
  · subst hb; rw [upd_same] at e; cases e; exact new
  · rw [upd_ne hb] at e
    exact (x b u e).stay (fun c v _ q => k c v q) (fun c q => by rw [upd_ne (ne_of_none q hn)]; exact q) fun c xs q => by rw [upd_ne (ne_of_none q hn)]; exact q
end

/-- what may be read as u: it is u, or a known u -/
def Rd (H : Hp) (a : Addr) (u : HO) : Prop := H a = some u ∨ ∃ o, H a = some (.frz o u)
theorem Rd.of {H : Hp} {a : Addr} {u : HO} (h : H a = some u) : Rd H a u := .inl h
theorem Rd.ok {P : Program} {w : World} {H : Hp} {h : Heap} {a : Addr} {u : HO} (r : Rd H a u) (x : HOk P w H h) : ObjOk P w H h a u := by
  rcases r with r | ⟨o, r⟩
  · exact x a u r
  · obtain ⟨_, q⟩ := x a _ r
    exact q
/-- what may be written -/
def Mut : Option HO → Prop
  | some (.lst _) => True
  | some (.dK _) => True
  | some (.dT _) => True
  | some (.set _ _) => True
  | some (.ins _ _ _) => True
  | some (.ext _) => True
  | _ => False
section
variable {P : Program} {w : World} {H : Hp} {h h' : Heap} {x e : Addr} {o' : HO}
/-- the object at e is changed: x itself, or the dict of the instance x -/
theorem HOk.write (ok : HOk P w H h) (mu : Mut (H x)) (he : e = x ∨ H e = some (.own x)) (k : ∀ b u, b ≠ e → h.get? b = some u → h'.get? b = some u) (heo : ∃ u, h'.get? e = some u)
    (new : ObjOk P w (upd H x o') h' x o') : HOk P w (upd H x o') h' := fun b u q => by
  have nown : ∀ c y, H c = some (.own y) → c ≠ x := fun c y r z => by subst z; rw [r] at mu; exact mu
  have ntup : ∀ c xs, H c = some (.tup xs) → c ≠ x := fun c xs r z => by subst z; rw [r] at mu; exact mu
  by_cases hb : b = x
  · subst hb; rw [upd_same] at q; cases q; exact new
  · rw [upd_ne hb] at q
    by_cases hbe : b = e
    · have q' : H b = some (.own x) := by
        rcases he with z | z
        · exact absurd (hbe.trans z) hb
        · rw [hbe]; exact z
      rw [q] at q'; cases q'
      obtain ⟨v, hv⟩ := heo
      exact ⟨v, by rw [hbe]; exact hv⟩
    · refine (ok b u q).stay (fun c v hc r => k c v ?_ r) (fun c r => by rw [upd_ne (nown c b r)]; exact r) fun c xs r => by rw [upd_ne (ntup c xs r)]; exact r
      rcases hc with rfl | hc
      · exact hbe
      · rintro rfl
        rcases he with z | z
        · exact nown c b hc z
        · rw [hc] at z; cases z; exact hb rfl
end

/-! ### kept unless tracked; of the frames at fs (the callers') the slots may change (an exception that passes writes there); of the records at ex (iterators) nothing is said -/
structure Un (fs ex : List Addr) (H H' : Hp) (h h' : Heap) : Prop where
  keep : ∀ b o, h.get? b = some o → H b = none → b ∉ fs → b ∉ ex → h'.get? b = some o
  slot : ∀ b o, h.get? b = some o → H b = none → b ∈ fs → b ∉ ex → ∃ sl, h'.get? b = some { o with slots := sl }
  free : ∀ b o, h.get? b = some o → H b = none → b ∉ ex → H' b = none
  there : ∀ b o, h.get? b = some o → b ∉ ex → ∃ o', h'.get? b = some o'
  tups : ∀ b xs, H b = some (.tup xs) → H' b = some (.tup xs)
  frzs : ∀ b o u, H b = some (.frz o u) → H' b = some (.frz o u)
  tbls : ∀ b ps, H b = some (.tbl ps) → ∃ more, H' b = some (.tbl (ps ++ more))
section
variable {fs fs' ex ex' : List Addr} {H H1 H2 : Hp} {h h1 h2 h' : Heap} {a x e : Addr} {o : HO}
theorem Un.any (u : Un fs ex H H1 h h1) {b : Addr} {ob : Obj} (q : h.get? b = some ob) (n : H b = none) (hx : b ∉ ex) : ∃ sl, h1.get? b = some { ob with slots := sl } := by
  by_cases hb : b ∈ fs
  · exact u.slot b ob q n hb hx
  · exact ⟨ob.slots, u.keep b ob q n hb hx⟩
theorem Un.trans (a : Un fs ex H H1 h h1) (b : Un fs ex H1 H2 h1 h2) : Un fs ex H H2 h h2 where
  keep := fun c ob q n hc hx => b.keep c ob (a.keep c ob q n hc hx) (a.free c ob q n hx) hc hx
  slot := fun c ob q n hc hx => by
    obtain ⟨sl, e1⟩ := a.slot c ob q n hc hx
    obtain ⟨sl', e2⟩ := b.slot c _ e1 (a.free c ob q n hx) hc hx
    exact ⟨sl', e2⟩
  free := fun c ob q n hx => by
    obtain ⟨o', e1⟩ := a.there c ob q hx
    exact b.free c o' e1 (a.free c ob q n hx) hx
  there := fun c ob q hx => by
    obtain ⟨o', e1⟩ := a.there c ob q hx
    exact b.there c o' e1 hx
  tups := fun c xs q => b.tups c xs (a.tups c xs q)
  frzs := fun c ob xs q => b.frzs c ob xs (a.frzs c ob xs q)
  tbls := fun c ps q => by
    obtain ⟨m1, e1⟩ := a.tbls c ps q
    obtain ⟨m2, e2⟩ := b.tbls c _ e1
    exact ⟨m1 ++ m2, by rw [e2, Array.append_assoc]⟩
theorem Un.kept (k : ∀ b u, h.get? b = some u → h'.get? b = some u) : Un fs ex H H h h' :=
  ⟨fun b ob q _ _ _ => k b ob q, fun b ob q _ _ _ => ⟨ob.slots, k b ob q⟩, fun _ _ _ n _ => n, fun b ob q _ => ⟨ob, k b ob q⟩, fun _ _ q => q, fun _ _ _ q => q, fun _ ps q => ⟨#[], by rw [q]; simp⟩⟩
theorem Un.refl : Un fs ex H H h h := Un.kept fun _ _ q => q
theorem Un.laid (k : ∀ b u, h.get? b = some u → h'.get? b = some u) (hp : h.objs.size ≤ a) (hn : H a = none) : Un fs ex H (upd H a o) h h' where
  keep := fun b u q _ _ _ => k b u q
  slot := fun b u q _ _ _ => ⟨u.slots, k b u q⟩
  free := fun b u q n _ => by rw [upd_ne (Nat.ne_of_lt (Nat.lt_of_lt_of_le (Heap.lt_size q) hp))]; exact n
  there := fun b u q _ => ⟨u, k b u q⟩
  tups := fun b xs q => by rw [upd_ne (ne_of_none q hn)]; exact q
  frzs := fun b u xs q => by rw [upd_ne (ne_of_none q hn)]; exact q
  tbls := fun b ps q => ⟨#[], by rw [upd_ne (ne_of_none q hn), q]; simp⟩
theorem Un.write (mu : Mut (H x)) (he : e = x ∨ H e = some (.own x)) (k : ∀ b u, b ≠ e → h.get? b = some u → h'.get? b = some u) (heo : ∃ u, h'.get? e = some u) : Un fs ex H (upd H x o) h h' := by
  have hx : ∀ b, H b = none → b ≠ x := fun b n z => by subst z; rw [n] at mu; exact mu
  have hb : ∀ b, H b = none → b ≠ e := fun b n z => by
    subst z
    rcases he with r | r
    · exact hx b n r
    · rw [n] at r; cases r
  have hm : ∀ b u, H b = some u → ¬ Mut (some u) → b ≠ x := fun b u q nm z => by subst z; rw [q] at mu; exact nm mu
  refine ⟨fun b u q n _ _ => k b u (hb b n) q, fun b u q n _ _ => ⟨u.slots, k b u (hb b n) q⟩, fun b u q n _ => by rw [upd_ne (hx b n)]; exact n, fun b u q _ => ?_,
    fun b xs q => by rw [upd_ne (hm b _ q fun z => z)]; exact q, fun b u xs q => by rw [upd_ne (hm b _ q fun z => z)]; exact q, fun b ps q => ⟨#[], by rw [upd_ne (hm b _ q fun z => z), q]; simp⟩⟩
  by_cases hbe : b = e
  · subst hbe; exact heo
  · exact ⟨u, k b u hbe q⟩
theorem Un.mono (u : Un fs ex H H1 h h1) (hs : ∀ b ∈ fs, b ∈ fs') (hx : ∀ b ∈ ex, b ∈ ex') : Un fs' ex' H H1 h h1 :=
  ⟨fun b ob q n hb he => u.keep b ob q n (fun z => hb (hs b z)) fun z => he (hx b z), fun _ _ q n _ he => u.any q n fun z => he (hx _ z), fun b ob q n he => u.free b ob q n fun z => he (hx b z), fun b ob q he => u.there b ob q fun z => he (hx b z), u.tups, u.frzs, u.tbls⟩
end

/-! ### the heap without what is tracked -/
def trk (h : Heap) (H : Hp) : List Addr := (List.range h.objs.size).filter fun a => (H a).isSome
def hidT (h : Heap) (H : Hp) : Heap := PySem.W.hideAll h (trk h H)
theorem hidT_size (h : Heap) (H : Hp) : (hidT h H).objs.size = h.objs.size := PySem.W.hideAll_size _ _
theorem hidT_get {h : Heap} {H : Hp} {b : Addr} {o : Obj} (e : h.get? b = some o) (n : H b = none) : (hidT h H).get? b = some o :=
  PySem.W.hideAll_get _ e fun hm => by
    have q : (H b).isSome = true := (List.mem_filter.mp hm).2
    rw [n] at q; simp at q
theorem of_hidT {h : Heap} {H : Hp} {b : Addr} {o : Obj} (e : (hidT h H).get? b = some o) : h.get? b = some o ∧ H b = none := by
  have e' : h.get? b = some o := PySem.W.of_hideAll (trk h H) e
  refine ⟨e', ?_⟩
  cases q : H b with
  | none => rfl
  | some x =>
    have hm : b ∈ trk h H := List.mem_filter.mpr ⟨List.mem_range.mpr (Heap.lt_size e'), by simp [q]⟩
    have z : (hidT h H).get? b = none := PySem.W.hideAll_none (trk h H) hm
    rw [z] at e; cases e

/-! ### OpenK's ledger, filled with every new object but one -/
def allNews (g h : Heap) (L : Addr) : List (Addr × Obj) := (List.range h.objs.size).filterMap fun a => if a = L ∨ (g.get? a).isSome = true then none else (h.get? a).map fun o => (a, o)
theorem mem_allNews {g h : Heap} {L a : Addr} {o : Obj} (h1 : a ≠ L) (h2 : g.get? a = none) (h3 : h.get? a = some o) : (a, o) ∈ allNews g h L :=
  List.mem_filterMap.mpr ⟨a, List.mem_range.mpr (Heap.lt_size h3), by simp [h1, h2, h3]⟩
theorem of_mem_allNews {g h : Heap} {L : Addr} {p : Addr × Obj} (hp : p ∈ allNews g h L) : p.1 ≠ L ∧ g.get? p.1 = none ∧ h.get? p.1 = some p.2 := by
  obtain ⟨b, _, e⟩ := List.mem_filterMap.mp hp
  split at e
  · cases e
  · rename_i hn
    cases q : h.get? b with
    | none => rw [q] at e; simp at e
    | some u =>
      rw [q] at e
      simp only [Option.map_some, Option.some.injEq] at e
      subst e
      refine ⟨fun z => hn (.inl z), ?_, q⟩
      show g.get? b = none
      cases r : g.get? b with
      | none => rfl
      | some v => exact (hn (.inr (by simp [r]))).elim
def rest (g h : Heap) (L d : Addr) : List (Addr × Obj) := (allNews g h L).filter fun p => decide (p.1 ≠ d)
theorem rest_ne {g h : Heap} {L d : Addr} : ∀ p ∈ rest g h L d, p.1 ≠ d := fun p hp => of_decide_eq_true (List.mem_filter.mp hp).2
theorem mem_rest {g h : Heap} {L d a : Addr} {o : Obj} (h1 : a ≠ L) (h2 : g.get? a = none) (h3 : h.get? a = some o) (h4 : a ≠ d) : (a, o) ∈ rest g h L d :=
  List.mem_filter.mpr ⟨mem_allNews h1 h2 h3, decide_eq_true h4⟩
theorem news_all {g h : Heap} {L : Addr} : News g L h (allNews g h L) := fun p hp => let ⟨a, b, c⟩ := of_mem_allNews hp; ⟨c, a, b⟩
theorem news_at {g h : Heap} {L d : Addr} {o : Obj} (h1 : d ≠ L) (h2 : g.get? d = none) (h3 : h.get? d = some o) : News g L h ((d, o) :: rest g h L d) := fun p hp => by
  rcases List.mem_cons.mp hp with rfl | hp
  · exact ⟨h3, h1, h2⟩
  · exact news_all p (List.mem_filter.mp hp).1
/-- behind a rule that changed d alone: all else but the frame is kept -/
theorem kept_of_news {g h h' : Heap} {L d : Addr} {m : Str → Option Value} (k : ∀ b o, g.get? b = some o → h.get? b = some o) (F : Fr g L h' m) (N : News g L h' (rest g h L d)) :
    ∀ b o, b ≠ L → b ≠ d → h.get? b = some o → h'.get? b = some o := fun b o h1 h2 e => by
  cases q : g.get? b with
  | some u =>
    have := k b u q
    rw [e] at this; cases this
    exact F.keep b _ q
  | none => exact (N (b, o) (mem_rest h1 q e h2)).1
end L2

namespace L2
open PySem PySem.Spec PyProof.Rows

/-- the module's facts, over the base: the heap at the law's entry without what is tracked there -/
structure Mod (K : PySem.W.Frag) (mg : Str → Option Value) (base : Heap) : Prop where
  kin : K.In base
  glob : base.Ns mainGlobals mg
  blt : ∃ mb, base.Ns builtinsNs mb ∧ ∀ x : Str, x ≠ "__name__" → mb x = bootBuiltins x
  nolimit : base.NoLimit

/-- the context: a def's body (or a comprehension's block) running. base: fixed through the whole law; s₀, H₀: the entry; outer: the frames whose slots others may change (a def's callers); stack: all frames that run;
   ex: iterators that were made ahead of the entry and are walked here (a comprehension's); fn: the names whose cells were made at the entry (a def: all; a comprehension's block: its own); calm: not within an except suite; pn: pins that every state bears; xe: what is wanted of an exception that leaves the code -/
structure Cx where
  prog : Program
  w : World
  K : PySem.W.Frag
  mg : Str → Option Value
  base : Heap
  A : Around
  N : List Str
  s₀ : Shared
  H₀ : Hp
  env : Env
  outer : List Env
  stack : List Env
  ex : List Addr
  fn : Str → Bool
  calm : Bool
  pn : List (Addr × Obj)
  xe : Value → Shared → Prop
/-- the callers' frames -/
def frs (l : List Env) : List Addr := l.filterMap (·.frame)
abbrev Cx.fs (X : Cx) : List Addr := frs X.outer

def Vis (sc : Scope) (x : Str) : Prop := sc.names.lookup x = some .local ∨ sc.names.lookup x = some .cell ∨ sc.names.lookup x = some .free
def Loc (sc : Scope) (x : Str) : Prop := sc.names.lookup x = some .local ∨ sc.names.lookup x = some .cell
def Look (env : Env) (h : Heap) (m : Str → Option Value) (x : Str) (u : Value) : Prop :=
  (env.kindOf x = some .local ∧ m x = some u) ∨ ((env.kindOf x = some .cell ∨ env.kindOf x = some .free) ∧ ∃ c, env.cells.lookup x = some c ∧ h.IsCell c (some u))

structure Cx.Ok (X : Cx) : Prop where
  mod : Mod X.K X.mg X.base
  kind : X.env.scope.kind = .function
  glob : X.env.globals = mainGlobals
  blt : X.env.builtins = builtinsNs
  above : X.s₀.heap.objs.size ≤ X.env.locals
  inj : ∀ x y c, X.env.cells.lookup x = some c → X.env.cells.lookup y = some c → x = y
  has : ∀ x, (X.env.kindOf x = some .cell ∨ X.env.kindOf x = some .free) → ∃ c, X.env.cells.lookup x = some c
  cab : ∀ x c, X.fn x = true → X.env.cells.lookup x = some c → X.s₀.heap.objs.size ≤ c
  hd : X.calm = true → X.A.handled = none
  frames : X.A.frames = some X.stack
  stk : X.stack = X.outer ∨ (X.stack = X.env :: X.outer ∧ X.env.frame = some X.env.locals)
  exf : ∀ b ∈ X.ex, b ≠ X.env.locals ∧ ∀ x c, X.env.cells.lookup x = some c → c ≠ b
  bs : ∀ b o, X.base.get? b = some o → X.s₀.heap.get? b = some o ∧ X.H₀ b = none
  bsz : X.base.objs.size ≤ X.s₀.heap.objs.size
  noex : ∀ b o, X.base.get? b = some o → b ∉ X.ex
  exfs : ∀ b ∈ X.ex, b ∉ X.fs
  funs : X.s₀.heap.FunFrames X.base X.outer
  frf : ∀ b ∈ X.fs, X.H₀ b = none

structure Inv (X : Cx) (pins : List (Addr × Obj)) (σ : List (Option V)) (H : Hp) (s : Shared) : Prop where
  ok : X.Ok
  os : s.os = X.s₀.os
  bare : AllBare s.gens
  base : Un X.fs X.ex X.H₀ H X.s₀.heap s.heap
  loc : ∃ m, s.heap.Ns X.env.locals m ∧ ∀ (i : Nat) (x : Str) (v : V), X.N[i]? = some x → σ[i]? = some (some v) → Vis X.env.scope x → ∃ u, RelV v u ∧ Look X.env s.heap m x u
  cell : ∀ x c, X.env.cells.lookup x = some c → ∃ v, s.heap.IsCell c v
  free : H X.env.locals = none
  freeC : ∀ x c, X.env.cells.lookup x = some c → H c = none
  pin : ∀ p ∈ X.pn ++ pins, s.heap.get? p.1 = some p.2 ∧ H p.1 = none ∧ p.1 ≠ X.env.locals ∧ p.1 ∉ X.fs ∧ ∀ v, p.2.data ≠ .cell v
  hok : HOk X.prog X.w H s.heap
  len : σ.length = X.N.length

section
variable {X : Cx} {pins : List (Addr × Obj)} {σ : List (Option V)} {H H' : Hp} {s : Shared} {h' : Heap}

theorem Cx.Ok.nofr (ok : X.Ok) {b : Addr} {o : Obj} (e : X.base.get? b = some o) : b ∉ X.fs := fun hb => by
  have := (ok.funs.mem hb).1
  rw [e] at this; cases this
theorem Inv.bs (I : Inv X pins σ H s) : ∀ b o, X.base.get? b = some o → s.heap.get? b = some o ∧ H b = none := fun b o e =>
  ⟨I.base.keep b o (I.ok.bs b o e).1 (I.ok.bs b o e).2 (I.ok.nofr e) (I.ok.noex b o e), I.base.free b o (I.ok.bs b o e).1 (I.ok.bs b o e).2 (I.ok.noex b o e)⟩
theorem Inv.bk (I : Inv X pins σ H s) : ∀ b o, X.base.get? b = some o → s.heap.get? b = some o := fun b o e => (I.bs b o e).1
theorem Inv.mod (I : Inv X pins σ H s) : Mod X.K X.mg X.base := I.ok.mod
theorem Inv.kIn (I : Inv X pins σ H s) : X.K.In s.heap := I.ok.mod.kin.keeps I.bk
theorem Inv.nolimit (I : Inv X pins σ H s) : s.heap.NoLimit := I.ok.mod.nolimit.keeps I.bk
/-- the frame over the base: for OpenK's rules (K.In X.base is I.mod.kin) -/
theorem Inv.fr (I : Inv X pins σ H s) : ∃ m, Fr X.base X.env.locals s.heap m :=
  let ⟨m, hn, _⟩ := I.loc
  ⟨m, hn, I.bk, Nat.le_trans I.ok.bsz I.ok.above⟩
theorem Inv.lt (I : Inv X pins σ H s) : X.env.locals < s.heap.objs.size := let ⟨_, hn, _⟩ := I.loc; hn.lt
theorem Inv.sz (I : Inv X pins σ H s) : X.s₀.heap.objs.size ≤ s.heap.objs.size := Nat.le_trans I.ok.above (Nat.le_of_lt I.lt)
theorem Inv.nofs (I : Inv X pins σ H s) {a : Addr} (h : s.heap.objs.size ≤ a) : a ∉ X.fs := fun hb => by
  obtain ⟨_, o, ho, _⟩ := I.ok.funs.mem hb
  exact absurd (Nat.lt_of_lt_of_le (Heap.lt_size ho) (Nat.le_trans I.sz h)) (Nat.lt_irrefl _)
theorem Inv.cne (I : Inv X pins σ H s) : ∀ x c, X.env.cells.lookup x = some c → c ≠ X.env.locals := fun x c e z => by
  obtain ⟨v, o, ho, hd⟩ := I.cell x c e
  obtain ⟨m, ⟨o', es, ep, ho', hd', _⟩, _⟩ := I.loc
  rw [z, ho'] at ho; cases ho; rw [hd'] at hd; cases hd
theorem Inv.funs (I : Inv X pins σ H s) : s.heap.FunFrames X.base X.outer := by
  have all : ∀ (l : List Env), (∀ b ∈ frs l, b ∈ X.fs) → X.s₀.heap.FunFrames X.base l → s.heap.FunFrames X.base l := by
    intro l
    induction l with
    | nil => intro _ _; trivial
    | cons env r ih =>
      intro hs hl
      obtain ⟨hk, ⟨L, o, hf, hn, ho, hd⟩, hr⟩ := hl
      have hL : L ∈ X.fs := hs L (by unfold frs; rw [List.filterMap_cons, hf]; exact List.mem_cons_self)
      obtain ⟨sl, e⟩ := I.base.slot L o ho (I.ok.frf L hL) hL fun z => I.ok.exfs L z hL
      exact ⟨hk, ⟨L, _, hf, hn, e, hd⟩, ih (fun b hb => hs b (by unfold frs; rw [List.filterMap_cons, hf]; exact List.mem_cons_of_mem _ hb)) hr⟩
  exact all X.outer (fun _ hb => hb) I.ok.funs

/-- the frames that run, for a call -/
theorem Inv.stack (I : Inv X pins σ H s) : s.heap.FunFrames X.base X.stack := by
  rcases I.ok.stk with e | ⟨e, hf⟩
  · rw [e]; exact I.funs
  · rw [e]
    obtain ⟨m, hn, _⟩ := I.loc
    refine .cons (by rw [I.ok.kind]; decide) hf hn ?_ I.funs
    exact Heap.get?_none_of_le (Nat.le_trans I.ok.bsz I.ok.above)
theorem Inv.stkSub (I : Inv X pins σ H s) : ∀ b ∈ frs X.stack, b ∈ X.env.locals :: X.fs := fun b hb => by
  rcases I.ok.stk with e | ⟨e, hf⟩
  · rw [e] at hb; exact List.mem_cons_of_mem _ hb
  · rw [e] at hb
    unfold frs at hb
    rw [List.filterMap_cons, hf] at hb
    exact hb
theorem Inv.stkFree (I : Inv X pins σ H s) : ∀ b ∈ frs X.stack, H b = none := fun b hb => by
  rcases List.mem_cons.mp (I.stkSub b hb) with e | hb
  · rw [e]; exact I.free
  · obtain ⟨_, o, ho, _⟩ := I.ok.funs.mem hb
    exact I.base.free b o ho (I.ok.frf b hb) fun z => I.ok.exfs b z hb

/-- THE STEP: the untracked objects but the frame and the records at ch are kept (the callers' frames up to slots), the frame's map is kept, the new abstract heap is held -/
theorem Inv.step {g' : Array GenState} {t' : Nat} {d' : Drawn} {ch : List Addr} (I : Inv X pins σ H s)
    (hch : ∀ b ∈ ch, (b ∈ X.ex ∨ X.s₀.heap.objs.size ≤ b) ∧ b ≠ X.env.locals ∧ (∀ x c, X.env.cells.lookup x = some c → c ≠ b) ∧ ∀ p ∈ X.pn ++ pins, p.1 ≠ b)
    (keep : ∀ b o, b ≠ X.env.locals → b ∉ X.fs → b ∉ ch → s.heap.get? b = some o → H b = none → h'.get? b = some o)
    (slot : ∀ b o, b ≠ X.env.locals → b ∈ X.fs → b ∉ ch → s.heap.get? b = some o → H b = none → ∃ sl, h'.get? b = some { o with slots := sl }) (free : ∀ b o, b ∉ ch → s.heap.get? b = some o → H b = none → H' b = none)
    (there : ∀ b o, b ∉ ch → s.heap.get? b = some o → ∃ o', h'.get? b = some o')
    (tups : ∀ b xs, H b = some (.tup xs) → H' b = some (.tup xs)) (frzs : ∀ b o u, H b = some (.frz o u) → H' b = some (.frz o u)) (tbls : ∀ b ps, H b = some (.tbl ps) → ∃ more, H' b = some (.tbl (ps ++ more)))
    (ns : ∀ m, s.heap.Ns X.env.locals m → h'.Ns X.env.locals m) (hok : HOk X.prog X.w H' h') (hg : AllBare g') :
    Inv X pins σ H' { s with heap := h', gens := g', drawn := d', toks := t' } := by
  have neL : ∀ b o, X.s₀.heap.get? b = some o → b ≠ X.env.locals := fun b o e => Nat.ne_of_lt (Nat.lt_of_lt_of_le (Heap.lt_size e) I.ok.above)
  have neC : ∀ b o, X.s₀.heap.get? b = some o → b ∉ X.ex → b ∉ ch := fun b o e hx hb => by
    rcases (hch b hb).1 with z | z
    · exact hx z
    · exact absurd (Nat.lt_of_lt_of_le (Heap.lt_size e) z) (Nat.lt_irrefl _)
  have cellK : ∀ x c, X.env.cells.lookup x = some c → ∀ v, s.heap.IsCell c v → h'.IsCell c v := fun x c e v ⟨o, ho, hd⟩ => by
    have nch : c ∉ ch := fun z => (hch c z).2.2.1 x c e rfl
    by_cases hc : c ∈ X.fs
    · obtain ⟨sl, q⟩ := slot c o (I.cne x c e) hc nch ho (I.freeC x c e)
      exact ⟨_, q, hd⟩
    · exact ⟨o, keep c o (I.cne x c e) hc nch ho (I.freeC x c e), hd⟩
  refine ⟨I.ok, I.os, hg, ⟨fun b o e n hb hx => ?_, fun b o e n hb hx => ?_, fun b o e n hx => ?_, fun b o e hx => ?_, fun b xs e => tups b xs (I.base.tups b xs e), fun b o xs e => frzs b o xs (I.base.frzs b o xs e), fun b ps e => ?_⟩, ?_, fun x c e => ?_, ?_, fun x c e => ?_, fun p hp => ?_, hok, I.len⟩
  · exact keep b o (neL b o e) hb (neC b o e hx) (I.base.keep b o e n hb hx) (I.base.free b o e n hx)
  · obtain ⟨sl, e1⟩ := I.base.slot b o e n hb hx
    obtain ⟨sl', e2⟩ := slot b _ (neL b o e) hb (neC b o e hx) e1 (I.base.free b o e n hx)
    exact ⟨sl', e2⟩
  · obtain ⟨o', e1⟩ := I.base.there b o e hx
    exact free b o' (neC b o e hx) e1 (I.base.free b o e n hx)
  · obtain ⟨o', e1⟩ := I.base.there b o e hx
    exact there b o' (neC b o e hx) e1
  · obtain ⟨m1, e1⟩ := I.base.tbls b ps e
    obtain ⟨m2, e2⟩ := tbls b _ e1
    exact ⟨m1 ++ m2, by rw [e2, Array.append_assoc]⟩
  · obtain ⟨m, hn, hl⟩ := I.loc
    refine ⟨m, ns m hn, fun i x v e1 e2 e3 => ?_⟩
    obtain ⟨u, r, l⟩ := hl i x v e1 e2 e3
    refine ⟨u, r, ?_⟩
    rcases l with l | ⟨k, c, e, z⟩
    · exact .inl l
    · exact .inr ⟨k, c, e, cellK x c e _ z⟩
  · obtain ⟨v, z⟩ := I.cell x c e
    exact ⟨v, cellK x c e v z⟩
  · obtain ⟨m, ⟨o, _, _, ho, _⟩, _⟩ := I.loc
    exact free _ o (fun z => (hch _ z).2.1 rfl) ho I.free
  · obtain ⟨v, o, ho, hd⟩ := I.cell x c e
    exact free c o (fun z => (hch c z).2.2.1 x c e rfl) ho (I.freeC x c e)
  · obtain ⟨e, n, ne, nf, d⟩ := I.pin p hp
    have nch : p.1 ∉ ch := fun z => (hch p.1 z).2.2.2 p hp rfl
    exact ⟨keep p.1 p.2 ne nf nch e n, free p.1 p.2 nch e n, ne, nf, d⟩
/-- .. where the frame's own object is kept too -/
theorem Inv.un {t' : Nat} (I : Inv X pins σ H s) (u : Un X.fs [] H H' s.heap h') (hok : HOk X.prog X.w H' h') : Inv X pins σ H' { s with heap := h', toks := t' } := by
  obtain ⟨m, ⟨o, es, ep, ho, r⟩, _⟩ := id I.loc
  obtain ⟨sl, hL⟩ := u.any ho I.free (by simp)
  exact I.step (g' := s.gens) (d' := s.drawn) (ch := []) (fun _ z => nomatch z) (fun b o _ hb _ e n => u.keep b o e n hb (by simp)) (fun b o _ hb _ e n => u.slot b o e n hb (by simp)) (fun b o _ e n => u.free b o e n (by simp)) (fun b o _ e => u.there b o e (by simp)) u.tups u.frzs u.tbls (fun m' hm => by
    obtain ⟨o', es', ep', ho', r'⟩ := hm
    rw [ho] at ho'; cases ho'
    exact ⟨_, es', ep', hL, r'⟩) hok I.bare
/-- behind a call (or a comprehension's block): the slots of this frame may have changed too, the records at ch may have turned -/
theorem Inv.call {g' : Array GenState} {t' : Nat} {d' : Drawn} {ch : List Addr} (I : Inv X pins σ H s) (u : Un (frs X.stack) ch H H' s.heap h') (hok : HOk X.prog X.w H' h') (hg : AllBare g')
    (hch : ∀ b ∈ ch, (b ∈ X.ex ∨ X.s₀.heap.objs.size ≤ b) ∧ b ≠ X.env.locals ∧ (∀ x c, X.env.cells.lookup x = some c → c ≠ b) ∧ ∀ p ∈ X.pn ++ pins, p.1 ≠ b) :
    Inv X pins σ H' { s with heap := h', gens := g', drawn := d', toks := t' } := by
  obtain ⟨m, ⟨o, es, ep, ho, r⟩, _⟩ := id I.loc
  obtain ⟨sl, hL⟩ := u.any ho I.free fun z => (hch _ z).2.1 rfl
  exact I.step (ch := ch) hch (fun b o hL hb hc e n => u.keep b o e n (fun z => (List.mem_cons.mp (I.stkSub b z)).elim hL hb) hc) (fun b o _ _ hc e n => u.any e n hc) (fun b o hc e n => u.free b o e n hc) (fun b o hc e => u.there b o e hc) u.tups u.frzs u.tbls (fun m' hm => by
    obtain ⟨o', es', ep', ho', r'⟩ := hm
    rw [ho] at ho'; cases ho'
    exact ⟨_, es', ep', hL, r'⟩) hok hg
/-- an untracked record of ours (an iterator) has turned -/
theorem Inv.turned {t' : Nat} {it : Addr} (I : Inv X pins σ H s) (k : ∀ b o, b ≠ it → s.heap.get? b = some o → h'.get? b = some o) (hn : H it = none) (hL : it ≠ X.env.locals)
    (h1 : it ∈ X.ex ∨ X.s₀.heap.objs.size ≤ it) (h2 : ∀ x c, X.env.cells.lookup x = some c → c ≠ it) (h3 : ∀ p ∈ X.pn ++ pins, p.1 ≠ it) : Inv X pins σ H { s with heap := h', toks := t' } := by
  have nit : ∀ b u, H b = some u → b ≠ it := fun b u e z => by rw [z, hn] at e; cases e
  refine I.step (g' := s.gens) (d' := s.drawn) (ch := [it]) (fun b hb => ?_) (fun b o _ _ hc e _ => k b o (fun z => hc (by simp [z])) e) (fun b o _ _ hc e _ => ⟨o.slots, k b o (fun z => hc (by simp [z])) e⟩) (fun _ _ _ _ n => n)
    (fun b o hc e => ⟨o, k b o (fun z => hc (by simp [z])) e⟩) (fun _ _ e => e) (fun _ _ _ e => e) (fun b ps e => ⟨#[], by rw [e]; simp⟩) (fun m hm => ?_) (fun b u e => ?_) I.bare
  · have e : b = it := by simpa using hb
    subst e
    exact ⟨h1, hL, h2, h3⟩
  · obtain ⟨o, es, ep, ho, r⟩ := hm
    exact ⟨o, es, ep, k _ o (Ne.symm hL) ho, r⟩
  · refine (I.hok b u e).stay (fun c v hc q => k c v ?_ q) (fun _ q => q) fun _ _ q => q
    rcases hc with z | z
    · rw [z]; exact nit b u e
    · exact nit c _ z
theorem Inv.tok (I : Inv X pins σ H s) (t : Nat) : Inv X pins σ H { s with toks := t } := I.un (h' := s.heap) (t' := t) Un.refl I.hok
/-- all objects kept -/
theorem Inv.kept {t' : Nat} (I : Inv X pins σ H s) (k : ∀ b u, s.heap.get? b = some u → h'.get? b = some u) : Inv X pins σ H { s with heap := h', toks := t' } := I.un (Un.kept k) (I.hok.kept k)
/-- a new object laid and tracked -/
theorem Inv.laid {a : Addr} {o : HO} {t' : Nat} (I : Inv X pins σ H s) (k : ∀ b u, s.heap.get? b = some u → h'.get? b = some u) (hp : s.heap.objs.size ≤ a) (new : ObjOk X.prog X.w (upd H a o) h' a o) :
    Inv X pins σ (upd H a o) { s with heap := h', toks := t' } := I.un (Un.laid k hp (I.hok.fresh hp)) (I.hok.laid k hp new)
/-- an object written -/
theorem Inv.write {x e : Addr} {o : HO} {t' : Nat} (I : Inv X pins σ H s) (mu : Mut (H x)) (he : e = x ∨ H e = some (.own x)) (k : ∀ b u, b ≠ e → s.heap.get? b = some u → h'.get? b = some u) (heo : ∃ u, h'.get? e = some u)
    (new : ObjOk X.prog X.w (upd H x o) h' x o) : Inv X pins σ (upd H x o) { s with heap := h', toks := t' } := I.un (Un.write mu he k heo) (I.hok.write mu he k heo new)
/-- forgetting slots, pins -/
theorem Inv.weak {σ' : List (Option V)} (I : Inv X pins σ H s) (hl : σ'.length = σ.length) (w : ∀ (i : Nat) v, σ'[i]? = some (some v) → σ[i]? = some (some v)) : Inv X pins σ' H s :=
  ⟨I.ok, I.os, I.bare, I.base, let ⟨m, hn, hl'⟩ := I.loc; ⟨m, hn, fun i x v e1 e2 e3 => hl' i x v e1 (w i v e2) e3⟩, I.cell, I.free, I.freeC, I.pin, I.hok, hl.trans I.len⟩
theorem Inv.pins_of {pins' : List (Addr × Obj)} (I : Inv X pins σ H s) (h : ∀ p ∈ pins', s.heap.get? p.1 = some p.2 ∧ H p.1 = none ∧ p.1 ≠ X.env.locals ∧ p.1 ∉ X.fs ∧ ∀ v, p.2.data ≠ .cell v) : Inv X pins' σ H s :=
  ⟨I.ok, I.os, I.bare, I.base, I.loc, I.cell, I.free, I.freeC, fun p hp => (List.mem_append.mp hp).elim (fun z => I.pin p (List.mem_append_left _ z)) (h p), I.hok, I.len⟩

theorem nodup_ix {N : List Str} (hN : N.Nodup) {i j : Nat} {x : Str} (a : N[i]? = some x) (b : N[j]? = some x) : i = j := by
  obtain ⟨h1, e1⟩ := List.getElem?_eq_some_iff.mp a
  obtain ⟨h2, e2⟩ := List.getElem?_eq_some_iff.mp b
  exact (List.getElem_inj hN).mp (e1.trans e2.symm)

/-- a name is stored; what changed -/
theorem store_ok2 {M : Model} {A : Around} {E : Value → Shared → Prop} {i : Nat} {x : Str} {v : V} {u : Value} {Q : Unit → Shared → Prop} (I : Inv X pins σ H s) (hN : X.N.Nodup) (hi : X.N[i]? = some x) (hx : Loc X.env.scope x) (r : RelV v u)
    (h : ∀ s', Inv X pins (σ.set i (some v)) H s' → (∃ a, Heap.SameBut a s.heap s'.heap ∧ (a = X.env.locals ∨ X.env.cells.lookup x = some a)) → Q () s') (hf : X.fn x = true ∨ X.env.scope.names.lookup x = some .local := by first | exact .inl rfl | exact .inr rfl | assumption) : wpAny M A (storeName X.env x u) Q E s := by
  obtain ⟨m, hn, hl⟩ := id I.loc
  have hcls : (X.env.scope.kind == .class || (X.env.scope.kind == .module && X.env.locals != X.env.globals)) = false := by rw [I.ok.kind]; rfl
  have hiσ : i < σ.length := by rw [I.len]; exact (List.getElem?_eq_some_iff.mp hi).1
  have cne := I.cne
  have tracked : ∀ {a : Addr} {h' : Heap}, (∃ o, s.heap.get? a = some o ∧ H a = none) → Heap.SameBut a s.heap h' → HOk X.prog X.w H h' := fun {a h'} ha hs b ob e => by
    obtain ⟨_, _, hfree⟩ := ha
    refine (I.hok b ob e).stay (fun c w' hc q => (hs.2 c ?_).trans q) (fun _ q => q) fun _ _ q => q
    rintro rfl
    rcases hc with rfl | hc
    · rw [hfree] at e; cases e
    · rw [hfree] at hc; cases hc
  rcases hx with hk | hk
  · refine wpAny_storeName_local hk hn (fun h' hn' hs => ?_) hcls
    obtain ⟨oL, _, _, hoL, _⟩ := id hn
    refine h _ ⟨I.ok, I.os, I.bare, ⟨fun b o e n hb hx => ?_, fun b o e n hb hx => ?_, I.base.free, fun b o e hx => ?_, I.base.tups, I.base.frzs, I.base.tbls⟩, ⟨_, hn', fun j y v' e1 e2 e3 => ?_⟩, fun y c e => ?_, I.free, I.freeC, fun p hp => ?_, tracked ⟨oL, hoL, I.free⟩ hs, by simpa using I.len⟩ ⟨_, hs, .inl rfl⟩
    · exact (hs.2 b (Nat.ne_of_lt (Nat.lt_of_lt_of_le (Heap.lt_size e) I.ok.above))).trans (I.base.keep b o e n hb hx)
    · obtain ⟨sl, e1⟩ := I.base.slot b o e n hb hx
      exact ⟨sl, (hs.2 b (Nat.ne_of_lt (Nat.lt_of_lt_of_le (Heap.lt_size e) I.ok.above))).trans e1⟩
    · obtain ⟨o', e1⟩ := I.base.there b o e hx
      exact ⟨o', (hs.2 b (Nat.ne_of_lt (Nat.lt_of_lt_of_le (Heap.lt_size e) I.ok.above))).trans e1⟩
    · by_cases hj : j = i
      · subst hj
        rw [hi] at e1; cases e1
        rw [List.getElem?_set_self hiσ] at e2
        cases e2
        exact ⟨u, r, .inl ⟨hk, by simp⟩⟩
      · rw [List.getElem?_set_ne (Ne.symm hj)] at e2
        obtain ⟨u', r', q⟩ := hl j y v' e1 e2 e3
        refine ⟨u', r', ?_⟩
        rcases q with ⟨k, e⟩ | ⟨k, c, e, z⟩
        · refine .inl ⟨k, ?_⟩
          have : y ≠ x := fun e => hj (nodup_ix hN e1 (e ▸ hi))
          simp [this, e]
        · exact .inr ⟨k, c, e, z.sameBut hs (cne y c e)⟩
    · obtain ⟨w', z⟩ := I.cell y c e
      exact ⟨w', z.sameBut hs (cne y c e)⟩
    · obtain ⟨e, n, ne, nf, d⟩ := I.pin p hp
      exact ⟨(hs.2 p.1 ne).trans e, n, ne, nf, d⟩
  · have hfn : X.fn x = true := by
      rcases hf with z | z
      · exact z
      · rw [z] at hk; cases hk
    obtain ⟨c, hc⟩ := I.ok.has x (.inl hk)
    obtain ⟨w', z⟩ := I.cell x c hc
    refine wpAny_storeName_cell I.ok.kind hk hc z (fun h' hc' hs => ?_)
    obtain ⟨oc, hoc, hocd⟩ := id z
    refine h { s with heap := h' } ⟨I.ok, I.os, I.bare, ⟨fun b o e n hb hx => ?_, fun b o e n hb hx => ?_, I.base.free, fun b o e hx => ?_, I.base.tups, I.base.frzs, I.base.tbls⟩, ⟨m, hn.sameBut hs (Ne.symm (cne x c hc)), fun j y v' e1 e2 e3 => ?_⟩, fun y c' e => ?_, I.free, I.freeC, fun p hp => ?_, tracked ⟨oc, hoc, I.freeC x c hc⟩ hs, by simpa using I.len⟩ ⟨c, hs, .inr hc⟩
    · exact (hs.2 b (Nat.ne_of_lt (Nat.lt_of_lt_of_le (Heap.lt_size e) (I.ok.cab x c hfn hc)))).trans (I.base.keep b o e n hb hx)
    · obtain ⟨sl, e1⟩ := I.base.slot b o e n hb hx
      exact ⟨sl, (hs.2 b (Nat.ne_of_lt (Nat.lt_of_lt_of_le (Heap.lt_size e) (I.ok.cab x c hfn hc)))).trans e1⟩
    · obtain ⟨o', e1⟩ := I.base.there b o e hx
      exact ⟨o', (hs.2 b (Nat.ne_of_lt (Nat.lt_of_lt_of_le (Heap.lt_size e) (I.ok.cab x c hfn hc)))).trans e1⟩
    · by_cases hj : j = i
      · subst hj
        rw [hi] at e1; cases e1
        rw [List.getElem?_set_self hiσ] at e2
        cases e2
        exact ⟨u, r, .inr ⟨.inl hk, c, hc, hc'⟩⟩
      · rw [List.getElem?_set_ne (Ne.symm hj)] at e2
        obtain ⟨u', r', q⟩ := hl j y v' e1 e2 e3
        refine ⟨u', r', ?_⟩
        rcases q with q | ⟨k, c', e, z'⟩
        · exact .inl q
        · refine .inr ⟨k, c', e, z'.sameBut hs ?_⟩
          rintro rfl
          exact hj (nodup_ix hN e1 (I.ok.inj _ _ _ e hc ▸ hi))
    · by_cases hcc : c' = c
      · subst hcc; exact ⟨_, hc'⟩
      · obtain ⟨w2, z2⟩ := I.cell y c' e
        exact ⟨w2, z2.sameBut hs hcc⟩
    · obtain ⟨e, n, ne, nf, d⟩ := I.pin p hp
      refine ⟨(hs.2 p.1 ?_).trans e, n, ne, nf, d⟩
      intro q
      rw [q, hoc] at e
      have q' : oc = p.2 := Option.some.inj e
      exact d w' (by rw [← q']; exact hocd)
theorem store_ok {M : Model} {A : Around} {E : Value → Shared → Prop} {i : Nat} {x : Str} {v : V} {u : Value} {Q : Unit → Shared → Prop} (I : Inv X pins σ H s) (hN : X.N.Nodup) (hi : X.N[i]? = some x) (hx : Loc X.env.scope x) (r : RelV v u)
    (h : ∀ s', Inv X pins (σ.set i (some v)) H s' → Q () s') (hf : X.fn x = true ∨ X.env.scope.names.lookup x = some .local := by first | exact .inl rfl | exact .inr rfl | assumption) : wpAny M A (storeName X.env x u) Q E s :=
  store_ok2 I hN hi hx r (fun s' I' _ => h s' I') hf
/-- behind a call or a block, the state as it is -/
theorem Inv.call' {s' : Shared} {ch : List Addr} (I : Inv X pins σ H s) (ho : s'.os = s.os) (u : Un (frs X.stack) ch H H' s.heap s'.heap) (hok : HOk X.prog X.w H' s'.heap) (hg : AllBare s'.gens)
    (hch : ∀ b ∈ ch, (b ∈ X.ex ∨ X.s₀.heap.objs.size ≤ b) ∧ b ≠ X.env.locals ∧ (∀ x c, X.env.cells.lookup x = some c → c ≠ b) ∧ ∀ p ∈ X.pn ++ pins, p.1 ≠ b) : Inv X pins σ H' s' := by
  obtain ⟨h', g', d', t', o'⟩ := s'
  have e : o' = s.os := ho
  subst e
  exact I.call (g' := g') (t' := t') (d' := d') u hok hg hch
end

/-! ### the judgements -/
/-- an exception: its class, its own dict's address (where it has one), the abstract heap behind it -/
abbrev XK := Value → Option Addr → Hp → Prop
abbrev St := List (Option V)
abbrev VK := V → Hp → Prop
/-- an expression's reading; a test's; an argument list's -/
abbrev TE := St → Hp → VK → Prop
abbrev TT := St → Hp → (Bool → Hp → Prop) → Prop
abbrev TA := St → Hp → (List V → Hp → Prop) → Prop
/-- what is wanted behind a statement -/
structure Ends where
  nx : St → Hp → Prop
  rt : VK
  bk : St → Hp → Prop := fun _ _ => False
  ct : St → Hp → Prop := fun _ _ => False
abbrev TS := Ends → St → Hp → Prop

def EP (X : Cx) (pins : List (Addr × Obj)) (σ : St) (Q : VK) (u : Value) (s' : Shared) : Prop := ∃ v H', Inv X pins σ H' s' ∧ RelV v u ∧ Q v H'
def TP (X : Cx) (pins : List (Addr × Obj)) (σ : St) (Q : Bool → Hp → Prop) (b : Bool) (s' : Shared) : Prop := ∃ H', Inv X pins σ H' s' ∧ Q b H'
def AP (X : Cx) (pins : List (Addr × Obj)) (σ : St) (Q : List V → Hp → Prop) (us : List Value) (s' : Shared) : Prop := ∃ vs H', Inv X pins σ H' s' ∧ Vals vs us ∧ Q vs H'
def SP (X : Cx) (pins : List (Addr × Obj)) (D : Ends) (f : Flow) (s' : Shared) : Prop :=
  match f with
  | .next => ∃ σ' H', Inv X pins σ' H' s' ∧ D.nx σ' H'
  | .brk => ∃ σ' H', Inv X pins σ' H' s' ∧ D.bk σ' H'
  | .cont => ∃ σ' H', Inv X pins σ' H' s' ∧ D.ct σ' H'
  | .ret u => ∃ v σ' H', Inv X pins σ' H' s' ∧ RelV v u ∧ D.rt v H'

def PE (X : Cx) (e : Expr) (t : TE) : Prop :=
  ∀ (pins : List (Addr × Obj)) (s : Shared) (σ : St) (H : Hp) (Q : VK), Inv X pins σ H s → t σ H Q → wpAny (model X.prog X.w) X.A (eval e X.env) (EP X pins σ Q) X.xe s
def PT (X : Cx) (e : Expr) (t : TT) : Prop :=
  ∀ (pins : List (Addr × Obj)) (s : Shared) (σ : St) (H : Hp) (Q : Bool → Hp → Prop), Inv X pins σ H s → t σ H Q → wpAny (model X.prog X.w) X.A (isTrue e X.env (eval e X.env)) (TP X pins σ Q) X.xe s
/-- a test whatever its 'whole' is (and, or) -/
def PW (X : Cx) (e : Expr) (t : TT) : Prop :=
  ∀ (whole : Sem Value) (pins : List (Addr × Obj)) (s : Shared) (σ : St) (H : Hp) (Q : Bool → Hp → Prop), Inv X pins σ H s → t σ H Q → wpAny (model X.prog X.w) X.A (isTrue e X.env whole) (TP X pins σ Q) X.xe s
theorem PW.pt {X : Cx} {e : Expr} {t : TT} (h : PW X e t) : PT X e t := h _
/-- an argument list (no star), from the left -/
def PA (X : Cx) (es : List Expr) (t : TA) : Prop :=
  ∀ (pos : Pos) (pins : List (Addr × Obj)) (s : Shared) (σ : St) (H : Hp) (Q : List V → Hp → Prop), Inv X pins σ H s → t σ H Q → wpAny (model X.prog X.w) X.A (spliced (backTo pos (starEach es X.env))) (AP X pins σ Q) X.xe s
def PS (X : Cx) (st : Stmt) (t : TS) : Prop :=
  ∀ (pins : List (Addr × Obj)) (s : Shared) (σ : St) (H : Hp) (D : Ends), Inv X pins σ H s → t D σ H → wpAny (model X.prog X.w) X.A (exec st X.env) (SP X pins D) X.xe s
def PSs (X : Cx) (st : List Stmt) (t : TS) : Prop :=
  ∀ (pins : List (Addr × Obj)) (s : Shared) (σ : St) (H : Hp) (D : Ends), Inv X pins σ H s → t D σ H → wpAny (model X.prog X.w) X.A (execs st X.env) (SP X pins D) X.xe s
/-- weaken the end -/
theorem thn {α : Type} {t : Sem α} {Q Q' : α → Shared → Prop} {M : Model} {A : Around} {E : Value → Shared → Prop} {s : Shared} (h : wpAny M A t Q E s) (hQ : ∀ a s, Q a s → Q' a s) : wpAny M A t Q' E s := wpAny_mono h hQ fun _ _ x => x
end L2

namespace L2
open PySem PySem.Spec PyProof.Rows
section
variable {X : Cx}

/-- two expressions in a row -/
theorem bin {a b : Expr} {ta tb : TE} (ha : PE X a ta) (hb : PE X b tb) {pins : List (Addr × Obj)} {s : Shared} {σ : St} {H : Hp} {R : V → V → Hp → Prop} (I : Inv X pins σ H s) (h : ta σ H fun x H1 => tb σ H1 fun y H2 => R x y H2)
    {α : Type} {Q : α → Shared → Prop} {f : Value → Value → Sem α}
    (hf : ∀ v u s2 x y H2, Inv X pins σ H2 s2 → RelV x v → RelV y u → R x y H2 → wpAny (model X.prog X.w) X.A (f v u) Q X.xe s2) :
    wpAny (model X.prog X.w) X.A (eval a X.env) (fun v s₁ => wpAny (model X.prog X.w) X.A (eval b X.env) (fun u s₂ => wpAny (model X.prog X.w) X.A (f v u) Q X.xe s₂) X.xe s₁) X.xe s := by
  refine thn (ha pins s σ H _ I h) fun v s1 ⟨x, H1, I1, r1, q1⟩ => ?_
  refine thn (hb pins s1 σ H1 _ I1 q1) fun u s2 ⟨y, H2, I2, r2, q2⟩ => ?_
  exact hf v u s2 x y H2 I2 r1 r2 q2

/-! ### names and constants -/
def tVar (i : Nat) : TE := fun σ H Q => ∃ v, σ[i]? = some (some v) ∧ Q v H
def tC (v : V) : TE := fun _ H Q => Q v H
theorem pe_var {i : Nat} {x : Str} {pos : Pos} (hN : X.N[i]? = some x) (hv : Vis X.env.scope x) (hd : (x == ("__debug__" : Str)) = false := by decide) (hcd : (x == ("__classdict__" : Str)) = false := by decide) : PE X (.Name x pos) (tVar i) := by
  intro pins s σ H Q I h
  obtain ⟨v, e, h⟩ := h
  obtain ⟨m, hn, hl⟩ := I.loc
  obtain ⟨u, r, l⟩ := hl i x v hN e hv
  have fin : EP X pins σ Q u s := ⟨v, H, I, r, h⟩
  rcases l with ⟨hk, hm⟩ | ⟨hk, c, hc, hcell⟩
  · exact wpAny_Name (wpAny_loadName_local I.ok.kind hk hn hm fin) hd
  · rcases hk with hk | hk
    · exact wpAny_Name (wpAny_loadName_cell I.ok.kind hk hc hcell fin) hd
    · exact wpAny_Name (wpAny_loadName_free I.ok.kind hk hc hcell fin hcd) hd
theorem pe_int {i j pos} : PE X (.Constant (.int i) j pos) (tC (.int i)) := fun _ _ _ H _ I h => wpAny_Constant_int ⟨.int i, H, I.tok _, ⟨_, rfl⟩, h⟩
theorem pe_bl {b j pos} : PE X (.Constant (.bool b) j pos) (tC (.bl b)) := fun _ _ _ H _ I h => Constant_bool ⟨.bl b, H, I, rfl, h⟩
theorem pe_non {j pos} : PE X (.Constant .none j pos) (tC .non) := fun _ _ _ H _ I h => Constant_none ⟨.non, H, I, rfl, h⟩
theorem pe_str {x j pos} : PE X (.Constant (.str x) j pos) (tC (.str x)) := fun _ _ _ H _ I h => Calls.Constant_str ⟨.str x, H, I.tok _, ⟨_, rfl⟩, h⟩

/-- a global name of the def -/
def Gl (X : Cx) (x : Str) : Prop := X.env.kindOf x = some .globalImplicit
theorem ld_glob {E : Value → Shared → Prop} {pins : List (Addr × Obj)} {s : Shared} {σ : St} {H : Hp} {x : Str} {u : Value} {pos : Pos} {Q : Value → Shared → Prop} (I : Inv X pins σ H s) (hg : Gl X x) (hm : X.mg x = some u) (h : Q u s)
    (hd : (x == ("__debug__" : Str)) = false := by decide) : wpAny (model X.prog X.w) X.A (eval (.Name x pos) X.env) Q E s :=
  Calls.Name_function_global I.ok.kind hg (Calls.loadGlobal_global (by rw [I.ok.glob]; exact I.mod.glob.keeps I.bk) hm h) hd
theorem ld_blt {E : Value → Shared → Prop} {pins : List (Addr × Obj)} {s : Shared} {σ : St} {H : Hp} {x : Str} {u : Value} {pos : Pos} {Q : Value → Shared → Prop} (I : Inv X pins σ H s) (hg : Gl X x) (hm : X.mg x = none) (hv : bootBuiltins x = some u) (h : Q u s)
    (hn : x ≠ "__name__" := by decide) (hd : (x == ("__debug__" : Str)) = false := by decide) : wpAny (model X.prog X.w) X.A (eval (.Name x pos) X.env) Q E s := by
  obtain ⟨mb, h1, h2⟩ := I.mod.blt
  exact Calls.Name_function_global I.ok.kind hg (Calls.loadGlobal_builtin (by rw [I.ok.glob]; exact I.mod.glob.keeps I.bk) hm (by rw [I.ok.blt]; exact h1.keeps I.bk) ((h2 x hn).trans hv) h) hd
/-- a module's constant, a class, a function, as a value -/
theorem pe_glob {x : Str} {v : V} {u : Value} {pos : Pos} (hg : Gl X x) (hm : X.mg x = some u) (r : RelV v u) (hd : (x == ("__debug__" : Str)) = false := by decide) : PE X (.Name x pos) (tC v) :=
  fun _ _ _ H _ I h => ld_glob I hg hm ⟨v, H, I, r, h⟩ hd
theorem pe_bltn {x : Str} {v : V} {u : Value} {pos : Pos} (hg : Gl X x) (hm : X.mg x = none) (hv : bootBuiltins x = some u) (r : RelV v u) (hn : x ≠ "__name__" := by decide) (hd : (x == ("__debug__" : Str)) = false := by decide) : PE X (.Name x pos) (tC v) :=
  fun _ _ _ H _ I h => ld_blt I hg hm hv ⟨v, H, I, r, h⟩ hn hd

/-! ### arithmetic -/
/-- two ints -/
def t2I (ta tb : TE) (k : Int → Int → Hp → Prop) : St → Hp → Prop := fun σ H => ta σ H fun x H1 => tb σ H1 fun y H2 => ∃ i j, x = .int i ∧ y = .int j ∧ k i j H2
def tAdd (ta tb : TE) : TE := fun σ H Q => t2I ta tb (fun i j H2 => Q (.int (i + j)) H2) σ H
def tSub (ta tb : TE) : TE := fun σ H Q => t2I ta tb (fun i j H2 => Q (.int (i - j)) H2) σ H
/-- the left factor below 2^64 -/
def tMul (ta tb : TE) : TE := fun σ H Q => t2I ta tb (fun i j H2 => (-(2 ^ 64) < i ∧ i < 2 ^ 64) ∧ Q (.int (i * j)) H2) σ H
variable {a b : Expr} {ta tb : TE} {pos : Pos}
theorem pe_add (ha : PE X a ta) (hb : PE X b tb) : PE X (.BinOp a .Add b pos) (tAdd ta tb) := by
  intro pins s σ H Q I h
  refine wpAny_BinOp (bin ha hb I h fun v u s2 x y H2 I2 rx ry q => ?_)
  obtain ⟨i, j, rfl, rfl, q⟩ := q
  obtain ⟨t, rfl⟩ := rx
  obtain ⟨t', rfl⟩ := ry
  exact add_int ⟨.int _, H2, I2.tok _, ⟨_, rfl⟩, q⟩
theorem pe_sub (ha : PE X a ta) (hb : PE X b tb) : PE X (.BinOp a .Sub b pos) (tSub ta tb) := by
  intro pins s σ H Q I h
  refine wpAny_BinOp (bin ha hb I h fun v u s2 x y H2 I2 rx ry q => ?_)
  obtain ⟨i, j, rfl, rfl, q⟩ := q
  obtain ⟨t, rfl⟩ := rx
  obtain ⟨t', rfl⟩ := ry
  exact sub_int ⟨.int _, H2, I2.tok _, ⟨_, rfl⟩, q⟩
theorem pe_mul (ha : PE X a ta) (hb : PE X b tb) : PE X (.BinOp a .Mult b pos) (tMul ta tb) := by
  intro pins s σ H Q I h
  refine wpAny_BinOp (bin ha hb I h fun v u s2 x y H2 I2 rx ry q => ?_)
  obtain ⟨i, j, rfl, rfl, ⟨q1, q2⟩, q⟩ := q
  obtain ⟨t, rfl⟩ := rx
  obtain ⟨t', rfl⟩ := ry
  exact mul_int ⟨.int _, H2, I2.tok _, ⟨_, rfl⟩, q⟩ (.of_left (intBits_le_64 q1 q2))

/-! ### comparisons -/
def PC (X : Cx) (op : CmpOp) (a b : Expr) (t : TE) : Prop :=
  ∀ (pins : List (Addr × Obj)) (s : Shared) (σ : St) (H : Hp) (Q : VK), Inv X pins σ H s → t σ H Q →
    wpAny (model X.prog X.w) X.A (eval a X.env) (fun v s₁ => wpAny (model X.prog X.w) X.A (eval b X.env) (fun u s₂ => wpAny (model X.prog X.w) X.A (compareOp op v u) (EP X pins σ Q) X.xe s₂) X.xe s₁) X.xe s
theorem nobehind (b : Expr) {op : CmpOp} (h : op ≠ .In) (h2 : op ≠ .NotIn) : behindInMarks op b = false := by
  have e1 : (op == CmpOp.In) = false := by cases op <;> first | rfl | exact absurd rfl h
  have e2 : (op == CmpOp.NotIn) = false := by cases op <;> first | rfl | exact absurd rfl h2
  cases b <;> simp [behindInMarks, e1, e2]
def tCmp (p : Int → Int → Bool) (ta tb : TE) : TE := fun σ H Q => t2I ta tb (fun i j H2 => Q (.bl (p i j)) H2) σ H
abbrev tLt : TE → TE → TE := tCmp fun i j => decide (i < j)
abbrev tLe : TE → TE → TE := tCmp fun i j => decide (i ≤ j)
abbrev tGt : TE → TE → TE := tCmp fun i j => decide (j < i)
abbrev tGe : TE → TE → TE := tCmp fun i j => decide (j ≤ i)
abbrev tEqI : TE → TE → TE := tCmp fun i j => decide (i = j)
abbrev tNeI : TE → TE → TE := tCmp fun i j => !decide (i = j)
/-- a comparison of two ints, by its rule -/
theorem pc_int {op : CmpOp} {p : Int → Int → Bool} (ha : PE X a ta) (hb : PE X b tb)
    (rule : ∀ (i j : Int) (t u : Tok) (Q : Value → Shared → Prop) (s : Shared), Q (.bool (p i j)) s → wpAny (model X.prog X.w) X.A (compareOp op (.int i t) (.int j u)) Q X.xe s) : PC X op a b (tCmp p ta tb) := by
  intro pins s σ H Q I h
  refine bin ha hb I h fun v u s2 x y H2 I2 rx ry q => ?_
  obtain ⟨i, j, rfl, rfl, q⟩ := q
  obtain ⟨t, rfl⟩ := rx
  obtain ⟨t', rfl⟩ := ry
  exact rule i j t t' _ s2 ⟨.bl _, H2, I2, rfl, q⟩
theorem pc_lt (ha : PE X a ta) (hb : PE X b tb) : PC X .Lt a b (tLt ta tb) := pc_int ha hb fun _ _ _ _ _ _ h => lt_int h
theorem pc_le (ha : PE X a ta) (hb : PE X b tb) : PC X .LtE a b (tLe ta tb) := pc_int ha hb fun _ _ _ _ _ _ h => le_int h
theorem pc_gt (ha : PE X a ta) (hb : PE X b tb) : PC X .Gt a b (tGt ta tb) := pc_int ha hb fun _ _ _ _ _ _ h => gt_int h
theorem pc_ge (ha : PE X a ta) (hb : PE X b tb) : PC X .GtE a b (tGe ta tb) := pc_int ha hb fun _ _ _ _ _ _ h => ge_int h
theorem pc_eqI (ha : PE X a ta) (hb : PE X b tb) : PC X .Eq a b (tEqI ta tb) := pc_int ha hb fun _ _ _ _ _ _ h => eq_int (by rw [Bool.beq_eq_decide_eq]; exact h)
theorem pc_neI (ha : PE X a ta) (hb : PE X b tb) : PC X .NotEq a b (tNeI ta tb) := pc_int ha hb fun _ _ _ _ _ _ h => ne_int (by rw [bne, Bool.beq_eq_decide_eq]; exact h)
/-- is None -/
def tIsN (ta : TE) : TE := fun σ H Q => ta σ H fun x H1 => Q (.bl (decide (x = .non))) H1
def tNotN (ta : TE) : TE := fun σ H Q => ta σ H fun x H1 => Q (.bl (!decide (x = .non))) H1
theorem RelV.none_iff {x : V} {v : Value} (r : RelV x v) : (v == Value.none) = decide (x = .non) := by
  cases x with
  | non => cases r; rfl
  | bl _ => cases r; rfl
  | int _ => obtain ⟨t, rfl⟩ := r; rfl
  | str _ => obtain ⟨t, rfl⟩ := r; rfl
  | byt _ => obtain ⟨t, rfl⟩ := r; rfl
  | flt _ => obtain ⟨t, rfl⟩ := r; rfl
  | ref _ => cases r; rfl
  | ty _ => cases r; rfl
theorem pc_isN {j pos'} (ha : PE X a ta) : PC X .Is a (.Constant .none j pos') (tIsN ta) := by
  intro pins s σ H Q I h
  refine thn (ha pins s σ H _ I h) fun v s1 ⟨x, H1, I1, r1, q1⟩ => ?_
  exact Constant_none (is_none_gen ⟨.bl _, H1, I1, by rw [r1.none_iff]; rfl, q1⟩)
theorem pc_notN {j pos'} (ha : PE X a ta) : PC X .IsNot a (.Constant .none j pos') (tNotN ta) := by
  intro pins s σ H Q I h
  refine thn (ha pins s σ H _ I h) fun v s1 ⟨x, H1, I1, r1, q1⟩ => ?_
  exact Constant_none (isnot_none_gen ⟨.bl _, H1, I1, by rw [r1.none_iff]; rfl, q1⟩)
/-- a comparison as a value, as a test -/
def tB (t : TE) : TT := fun σ H Q => t σ H fun x H1 => ∃ c, x = .bl c ∧ Q c H1
theorem pe_cmp {op : CmpOp} {t : TE} (h : PC X op a b t) (h1 : behindInMarks op b = false := by first | exact nobehind _ (by decide) (by decide) | rfl) : PE X (.Compare a [op] [b] pos) t := fun pins s σ H Q I hw => wpAny_Compare1 (h pins s σ H Q I hw) h1
theorem pt_cmp {op : CmpOp} {t : TE} (h : PC X op a b t) (h1 : behindInMarks op b = false := by first | exact nobehind _ (by decide) (by decide) | rfl) : PT X (.Compare a [op] [b] pos) (tB t) := by
  intro pins s σ H Q I hw
  refine wpAny_isTrue_Compare1 (thn (h pins s σ H _ I hw) fun v s1 h1 => thn h1 fun u s2 h2 => thn h2 fun c s3 ⟨x, H1, I1, r1, q1⟩ => ?_) h1
  obtain ⟨d, rfl, q⟩ := q1
  cases r1
  exact wpAny_truthy_bool ⟨H1, I1, q⟩
/-- an expression whose value is a bool, as a test -/
theorem pt_val {e : Expr} {t : TE} (h : PE X e t) (he : ∀ whole, isTrue e X.env whole = (do let v ← whole; standAt e.pos; holding [v] (truthy v)) := by intro _; rfl) : PT X e (tB t) := by
  intro pins s σ H Q I hw
  refine isTrue_plain (thn (h pins s σ H _ I hw) fun v s1 ⟨x, H1, I1, r1, q1⟩ => ?_) (he _)
  obtain ⟨d, rfl, q⟩ := q1
  cases r1
  exact wpAny_truthy_bool ⟨H1, I1, q⟩

/-! ### and, or, not -/
variable {tA tB' : TT} {rest : List Expr}
def tAnd (t u : TT) : TT := fun σ H Q => t σ H fun c H1 => if c = true then u σ H1 Q else Q false H1
def tOr (t u : TT) : TT := fun σ H Q => t σ H fun c H1 => if c = true then Q true H1 else u σ H1 Q
def tNot (t : TT) : TT := fun σ H Q => t σ H fun c H1 => Q (!c) H1
theorem pw_and1 (ha : PT X a tA) : PW X (.BoolOp .And [a] pos) tA := by
  intro wh pins s σ H Q I h
  refine isTrue_and (thn (ha pins s σ H Q I h) fun c s1 e => ?_)
  cases c with
  | true => exact isTrue_and_nil e
  | false => exact e
theorem pw_or1 (ha : PT X a tA) : PW X (.BoolOp .Or [a] pos) tA := by
  intro wh pins s σ H Q I h
  refine isTrue_or (thn (ha pins s σ H Q I h) fun c s1 e => ?_)
  cases c with
  | false => exact isTrue_or_nil e
  | true => exact e
theorem pw_and (ha : PT X a tA) (hb : PW X (.BoolOp .And (b :: rest) pos) tB') : PW X (.BoolOp .And (a :: b :: rest) pos) (tAnd tA tB') := by
  intro wh pins s σ H Q I h
  refine isTrue_and (thn (ha pins s σ H _ I h) fun c s1 ⟨H1, I1, q1⟩ => ?_)
  cases c with
  | true => exact hb wh pins s1 σ H1 Q I1 q1
  | false => exact ⟨H1, I1, q1⟩
theorem pw_or (ha : PT X a tA) (hb : PW X (.BoolOp .Or (b :: rest) pos) tB') : PW X (.BoolOp .Or (a :: b :: rest) pos) (tOr tA tB') := by
  intro wh pins s σ H Q I h
  refine isTrue_or (thn (ha pins s σ H _ I h) fun c s1 ⟨H1, I1, q1⟩ => ?_)
  cases c with
  | true => exact ⟨H1, I1, q1⟩
  | false => exact hb wh pins s1 σ H1 Q I1 q1
theorem pt_not (ha : PT X a tA) : PT X (.UnaryOp .Not a pos) (tNot tA) := by
  intro pins s σ H Q I h
  exact isTrue_not (ha pins s σ H (fun c H1 => Q (!c) H1) I h)
/-- .. as values (bools) -/
def tAndV (ta tb : TE) : TE := fun σ H Q => ta σ H fun x H1 => ∃ c, x = .bl c ∧ if c = true then tb σ H1 Q else Q (.bl false) H1
def tOrV (ta tb : TE) : TE := fun σ H Q => ta σ H fun x H1 => ∃ c, x = .bl c ∧ if c = true then Q (.bl true) H1 else tb σ H1 Q
def tNotV (ta : TE) : TE := fun σ H Q => ta σ H fun x H1 => ∃ c, x = .bl c ∧ Q (.bl (!c)) H1
theorem pe_one {op} {t : TE} (h : PE X a t) : PE X (.BoolOp op [a] pos) t := fun pins s σ H Q I hw => BoolOp_one (h pins s σ H Q I hw)
theorem pe_and (ha : PE X a ta) (hb : PE X (.BoolOp .And (b :: rest) pos) tb) : PE X (.BoolOp .And (a :: b :: rest) pos) (tAndV ta tb) := by
  intro pins s σ H Q I h
  refine BoolOp_and (thn (ha pins s σ H _ I h) fun v s1 ⟨x, H1, I1, r1, q1⟩ => ?_)
  obtain ⟨c, rfl, q1⟩ := q1
  cases r1
  refine wpAny_truthy_bool ?_
  cases c with
  | true => exact hb pins s1 σ H1 Q I1 q1
  | false => exact ⟨.bl false, H1, I1, rfl, q1⟩
theorem pe_or (ha : PE X a ta) (hb : PE X (.BoolOp .Or (b :: rest) pos) tb) : PE X (.BoolOp .Or (a :: b :: rest) pos) (tOrV ta tb) := by
  intro pins s σ H Q I h
  refine BoolOp_or (thn (ha pins s σ H _ I h) fun v s1 ⟨x, H1, I1, r1, q1⟩ => ?_)
  obtain ⟨c, rfl, q1⟩ := q1
  cases r1
  refine wpAny_truthy_bool ?_
  cases c with
  | false => exact hb pins s1 σ H1 Q I1 q1
  | true => exact ⟨.bl true, H1, I1, rfl, q1⟩
theorem pe_not (ha : PE X a ta) : PE X (.UnaryOp .Not a pos) (tNotV ta) := by
  intro pins s σ H Q I h
  refine UnaryOp_ (thn (ha pins s σ H _ I h) fun v s1 ⟨x, H1, I1, r1, q1⟩ => ?_)
  obtain ⟨c, rfl, q1⟩ := q1
  cases r1
  exact not_of (wpAny_truthy_bool ⟨.bl (!c), H1, I1, rfl, q1⟩)
/-- a if t else b -/
def tIf (t : TT) (ta tb : TE) : TE := fun σ H Q => t σ H fun c H1 => if c = true then ta σ H1 Q else tb σ H1 Q
theorem pe_ifExp {c : Expr} (hc : PT X c tA) (ha : PE X a ta) (hb : PE X b tb) : PE X (.IfExp c a b pos) (tIf tA ta tb) := by
  intro pins s σ H Q I h
  refine wpAny_IfExp (thn (hc pins s σ H _ I h) fun d s1 ⟨H1, I1, q1⟩ => ?_)
  cases d with
  | true => exact ha pins s1 σ H1 Q I1 q1
  | false => exact hb pins s1 σ H1 Q I1 q1
end
end L2

namespace L2
open PySem PySem.Spec PyProof.Rows

/-! ### a list, a tuple that is read: tracked, frozen, or an object of the module -/
def SqL (K : PySem.W.Frag) (H : Hp) (a : Addr) (xs : List V) : Prop :=
  Rd H a (.lst xs) ∨
    ∃ (o : Obj) (its : Array Value) (n : Nat), K.lookup a = some o ∧ o.cls = .type "list" ∧ o.dict = none ∧ o.data = .seq its n ∧ its.size ≤ sizeLine ∧ Vals xs its.toList
def SqT (K : PySem.W.Frag) (H : Hp) (a : Addr) (xs : List V) : Prop :=
  Rd H a (.tup xs) ∨
    ∃ (o : Obj) (its : Array Value) (n : Nat), K.lookup a = some o ∧ o.cls = .type "tuple" ∧ o.data = .seq its n ∧ its.size ≤ sizeLine ∧ Vals xs its.toList
def absV : Value → Option V
  | .none => some .non
  | .bool b => some (.bl b)
  | .int i _ => some (.int i)
  | .str x _ => some (.str x)
  | .bytes b _ => some (.byt b)
  | .float b _ => some (.flt b)
  | .ref a => some (.ref a)
  | .type n => some (.ty n)
  | _ => none
theorem RelV.abs {x : V} {u : Value} (r : RelV x u) : absV u = some x := by
  cases x with
  | non => cases r; rfl
  | bl _ => cases r; rfl
  | int _ => obtain ⟨t, rfl⟩ := r; rfl
  | str _ => obtain ⟨t, rfl⟩ := r; rfl
  | byt _ => obtain ⟨t, rfl⟩ := r; rfl
  | flt _ => obtain ⟨t, rfl⟩ := r; rfl
  | ref _ => cases r; rfl
  | ty _ => cases r; rfl
theorem RelV.inj {x y : V} {u : Value} (r : RelV x u) (q : RelV y u) : x = y := Option.some.inj (r.abs.symm.trans q.abs)
theorem Vals.inj : ∀ {xs ys : List V} {us : List Value}, Vals xs us → Vals ys us → xs = ys
  | _, _, _, .nil, .nil => rfl
  | _, _, _, .cons r t, .cons r' t' => by rw [r.inj r', Vals.inj t t']
section
variable {X : Cx} {pins : List (Addr × Obj)} {σ : St} {H : Hp} {s : Shared} {a : Addr} {xs ys : List V}
theorem SqL.of {K : PySem.W.Frag} (h : H a = some (.lst xs)) : SqL K H a xs := .inl (.inl h)
theorem SqT.of {K : PySem.W.Frag} (h : H a = some (.tup xs)) : SqT K H a xs := .inl (.inl h)
theorem Inv.list (I : Inv X pins σ H s) (h : SqL X.K H a xs) : ∃ its : List Value, Vals xs its ∧ PlainL s.heap a its.toArray ∧ xs.length ≤ sizeLine := by
  rcases h with h | ⟨o, its, n, hk, hc, hd, hs, hz, r⟩
  · obtain ⟨z, its, n, r, e⟩ := h.ok I.hok
    exact ⟨its, r, ⟨_, n, e, rfl, rfl, rfl⟩, z⟩
  · refine ⟨its.toList, r, ⟨o, n, I.kIn a o hk, hc, hd, by simpa using hs⟩, ?_⟩
    have e := r.length
    simp only [Array.length_toList] at e
    omega
theorem Inv.tuple (I : Inv X pins σ H s) (h : SqT X.K H a xs) : ∃ its : List Value, Vals xs its ∧ IsTup s.heap a its.toArray ∧ xs.length ≤ sizeLine := by
  rcases h with h | ⟨o, its, n, hk, hc, hs, hz, r⟩
  · obtain ⟨z, its, r, p⟩ := h.ok I.hok
    exact ⟨its, r, p, z⟩
  · refine ⟨its.toList, r, ⟨o, I.kIn a o hk, hc, n, by simpa using hs⟩, ?_⟩
    have e := r.length
    simp only [Array.length_toList] at e
    omega
theorem Inv.list_inj (I : Inv X pins σ H s) (h : SqL X.K H a xs) (h' : SqL X.K H a ys) : xs = ys := by
  obtain ⟨its, r, ⟨o, n, e, _, _, d⟩, _⟩ := I.list h
  obtain ⟨its', r', ⟨o', n', e', _, _, d'⟩, _⟩ := I.list h'
  rw [e] at e'; cases e'
  rw [d] at d'
  injection d' with d1 _
  have : its = its' := by simpa using congrArg Array.toList d1
  subst this
  exact r.inj r'
theorem Inv.tuple_inj (I : Inv X pins σ H s) (h : SqT X.K H a xs) (h' : SqT X.K H a ys) : xs = ys := by
  obtain ⟨its, r, ⟨o, e, _, n, d⟩, _⟩ := I.tuple h
  obtain ⟨its', r', ⟨o', e', _, n', d'⟩, _⟩ := I.tuple h'
  rw [e] at e'; cases e'
  rw [d] at d'
  injection d' with d1 _
  have : its = its' := by simpa using congrArg Array.toList d1
  subst this
  exact r.inj r'
end

/-! ### another wish about exceptions -/
abbrev Cx.wish (X : Cx) (E : Value → Shared → Prop) : Cx := { X with xe := E }
/-- no exception leaves -/
abbrev Cx.nox (X : Cx) : Cx := X.wish fun _ _ => False
theorem Cx.Ok.wish {X : Cx} (ok : X.Ok) (E : Value → Shared → Prop) : (X.wish E).Ok :=
  ⟨ok.mod, ok.kind, ok.glob, ok.blt, ok.above, ok.inj, ok.has, ok.cab, ok.hd, ok.frames, ok.stk, ok.exf, ok.bs, ok.bsz, ok.noex, ok.exfs, ok.funs, ok.frf⟩
theorem Cx.Ok.unwish {X : Cx} {E : Value → Shared → Prop} (ok : (X.wish E).Ok) : X.Ok :=
  ⟨ok.mod, ok.kind, ok.glob, ok.blt, ok.above, ok.inj, ok.has, ok.cab, ok.hd, ok.frames, ok.stk, ok.exf, ok.bs, ok.bsz, ok.noex, ok.exfs, ok.funs, ok.frf⟩
section
variable {X : Cx} {pins : List (Addr × Obj)} {σ : St} {H : Hp} {s : Shared} {E : Value → Shared → Prop}
theorem Inv.wish (I : Inv X pins σ H s) (E : Value → Shared → Prop) : Inv (X.wish E) pins σ H s := ⟨I.ok.wish E, I.os, I.bare, I.base, I.loc, I.cell, I.free, I.freeC, I.pin, I.hok, I.len⟩
theorem Inv.unwish (I : Inv (X.wish E) pins σ H s) : Inv X pins σ H s := ⟨I.ok.unwish, I.os, I.bare, I.base, I.loc, I.cell, I.free, I.freeC, I.pin, I.hok, I.len⟩
theorem SP.unwish {D : Ends} {f : Flow} {s' : Shared} (h : SP (X.wish E) pins D f s') : SP X pins D f s' := by
  cases f with
  | next => obtain ⟨σ', H', I, q⟩ := h; exact ⟨σ', H', I.unwish, q⟩
  | brk => obtain ⟨σ', H', I, q⟩ := h; exact ⟨σ', H', I.unwish, q⟩
  | cont => obtain ⟨σ', H', I, q⟩ := h; exact ⟨σ', H', I.unwish, q⟩
  | ret u => obtain ⟨v, σ', H', I, r, q⟩ := h; exact ⟨v, σ', H', I.unwish, r, q⟩
theorem PE.nox {e : Expr} {t : TE} (h : PE X.nox e t) : PE X e t := fun pins s σ H Q I hw =>
  wpAny_mono (h pins s σ H Q (I.wish _) hw) (fun _ _ ⟨v, H', I', r, q⟩ => ⟨v, H', I'.unwish, r, q⟩) fun _ _ z => False.elim z
theorem PT.nox {e : Expr} {t : TT} (h : PT X.nox e t) : PT X e t := fun pins s σ H Q I hw =>
  wpAny_mono (h pins s σ H Q (I.wish _) hw) (fun _ _ ⟨H', I', q⟩ => ⟨H', I'.unwish, q⟩) fun _ _ z => False.elim z
theorem PSs.nox {st : List Stmt} {t : TS} (h : PSs X.nox st t) : PSs X st t := fun pins s σ H D I hw =>
  wpAny_mono (h pins s σ H D (I.wish _) hw) (fun _ _ q => q.unwish) fun _ _ z => False.elim z
end

/-! ### blocks and small statements -/
section
variable {X : Cx} {st : Stmt} {rest : List Stmt} {t u : TS} {e : Expr} {te : TE} {pos : Pos}
def tNext : TS := fun D σ H => D.nx σ H
def tSeq (t u : TS) : TS := fun D σ H => t { D with nx := u D } σ H
theorem pss_nil : PSs X [] tNext := fun _ _ σ H _ I h => wpAny_execs_nil ⟨σ, H, I, h⟩
theorem pss_cons (h1 : PS X st t) (h2 : PSs X rest u) : PSs X (st :: rest) (tSeq t u) := by
  intro pins s σ H D I h
  refine wpAny_execs_cons (thn (h1 pins s σ H { D with nx := u D } I h) fun f s1 q => ?_)
  cases f with
  | next =>
    obtain ⟨σ', H', I', q⟩ := q
    exact h2 pins s1 σ' H' D I' q
  | ret v => exact q
  | brk => exact q
  | cont => exact q
theorem pss_one (h1 : PS X st t) : PSs X [st] t := by
  intro pins s σ H D I h
  refine wpAny_execs_cons (thn (h1 pins s σ H D I h) fun f s1 q => ?_)
  cases f with
  | next => exact wpAny_execs_nil q
  | ret v => exact q
  | brk => exact q
  | cont => exact q
def tBreak : TS := fun D σ H => D.bk σ H
def tCont : TS := fun D σ H => D.ct σ H
theorem ps_pass : PS X (.Pass pos) tNext := fun _ _ σ H _ I h => wpAny_Pass ⟨σ, H, I, h⟩
theorem ps_break : PS X (.Break pos) tBreak := fun _ _ σ H _ I h => wpAny_Break ⟨σ, H, I, h⟩
theorem ps_continue : PS X (.Continue pos) tCont := fun _ _ σ H _ I h => wpAny_Continue ⟨σ, H, I, h⟩
/-- in a def's body nothing is shown -/
theorem Inv.quiet {pins : List (Addr × Obj)} {σ : St} {H : Hp} {s : Shared} (I : Inv X pins σ H s) : interactive X.env = false := by simp [interactive, I.ok.kind]
/-- a docstring -/
theorem ps_doc {x j pos pos'} : PS X (.Expr (.Constant (.str x) j pos) pos') tNext := fun _ s σ H _ I h => wpAny_Expr (Calls.Constant_str (show SP X _ _ .next { s with toks := s.toks + 1 } from ⟨σ, H, I.tok _, h⟩)) I.quiet
/-- an expression whose value is dropped -/
def tDrop (te : TE) : TS := fun D σ H => te σ H fun _ H1 => D.nx σ H1
theorem ps_expr (he : PE X e te) (hs : swapsWith e none pos.line X.env = pure false := by rfl) : PS X (.Expr e pos) (tDrop te) := by
  intro pins s σ H D I h
  exact wpAny_Expr_any (thn (he pins s σ H _ I h) fun v s1 ⟨x, H1, I1, r1, q1⟩ => ⟨σ, H1, I1, q1⟩) I.quiet hs
def tRet (te : TE) : TS := fun D σ H => te σ H D.rt
theorem ps_ret (he : PE X e te) : PS X (.Return (some e) pos) (tRet te) := by
  intro pins s σ H D I h
  exact wpAny_Return_some (thn (he pins s σ H _ I h) fun v s1 ⟨x, H1, I1, r1, q1⟩ => ⟨x, σ, H1, I1, r1, q1⟩)
def tRetN : TS := fun D _ H => D.rt .non H
theorem ps_retN : PS X (.Return none pos) tRetN := fun _ _ σ H _ I h => wpAny_Return_none ⟨.non, σ, H, I, rfl, h⟩
def tIfS (c : TT) (t u : TS) : TS := fun D σ H => c σ H fun b H1 => if b = true then t D σ H1 else u D σ H1
theorem ps_if {c : Expr} {a b : List Stmt} {tc : TT} (hc : PT X c tc) (ha : PSs X a t) (hb : PSs X b u) : PS X (.If c a b pos) (tIfS tc t u) := by
  intro pins s σ H D I h
  refine wpAny_If (thn (hc pins s σ H _ I h) fun d s1 ⟨H1, I1, q1⟩ => ?_)
  cases d with
  | true => exact ha pins s1 σ H1 D I1 q1
  | false => exact hb pins s1 σ H1 D I1 q1
/-- code that the proof never comes to -/
def tNever : TS := fun _ _ _ => False
theorem ps_never : PS X st tNever := fun _ _ _ _ _ _ h => h.elim
theorem pss_never {sts : List Stmt} : PSs X sts tNever := fun _ _ _ _ _ _ h => h.elim
end

/-! ### targets -/
abbrev TG := V → St → Hp → (St → Hp → Prop) → Prop
abbrev TGs := List V → St → Hp → (St → Hp → Prop) → Prop
def PG (X : Cx) (target : Expr) (t : TG) : Prop :=
  ∀ (pins : List (Addr × Obj)) (s : Shared) (σ : St) (H : Hp) (v : V) (u : Value) (Q : St → Hp → Prop), Inv X pins σ H s → RelV v u → t v σ H Q →
    wpAny (model X.prog X.w) X.A (assign target X.env u) (fun _ s' => ∃ σ' H', Inv X pins σ' H' s' ∧ Q σ' H') X.xe s
/-- several targets, one after another -/
def PGs (X : Cx) (ts : List Expr) (t : TGs) : Prop :=
  ∀ (pins : List (Addr × Obj)) (s : Shared) (σ : St) (H : Hp) (vs : List V) (us : List Value) (Q : St → Hp → Prop), Inv X pins σ H s → Vals vs us → t vs σ H Q →
    wpAny (model X.prog X.w) X.A (assignInOrder ((assignEach ts X.env).map (·.2)) us) (fun _ s' => ∃ σ' H', Inv X pins σ' H' s' ∧ Q σ' H') X.xe s
/-- o[i] = v, by values -/
abbrev TSet := V → V → V → Hp → (Hp → Prop) → Prop
def PSet (X : Cx) (t : TSet) : Prop :=
  ∀ (pins : List (Addr × Obj)) (s : Shared) (σ : St) (H : Hp) (o i v : V) (ov iv u : Value) (Q : Hp → Prop), Inv X pins σ H s → RelV o ov → RelV i iv → RelV v u → t o i v H Q →
    wpAny (model X.prog X.w) X.A (setItem ov iv u) (fun _ s' => ∃ H', Inv X pins σ H' s' ∧ Q H') X.xe s
/-- a op= b, by values -/
abbrev TIp := V → V → Hp → VK → Prop
def PIp (X : Cx) (op : Operator) (t : TIp) : Prop :=
  ∀ (pins : List (Addr × Obj)) (s : Shared) (σ : St) (H : Hp) (x y : V) (v u : Value) (Q : VK), Inv X pins σ H s → RelV x v → RelV y u → t x y H Q →
    wpAny (model X.prog X.w) X.A (inplaceOp op v u) (EP X pins σ Q) X.xe s
section
variable {X : Cx} {pos : Pos}
def gName (i : Nat) : TG := fun v σ H Q => Q (σ.set i (some v)) H
theorem pg_name {i : Nat} {x : Str} (hN : X.N.Nodup) (hi : X.N[i]? = some x) (hx : Loc X.env.scope x) (hf : X.fn x = true ∨ X.env.scope.names.lookup x = some .local := by first | exact .inl rfl | exact .inr rfl | assumption) : PG X (.Name x pos) (gName i) := by
  intro pins s σ H v u Q I r h
  exact wpAny_assign_Name (store_ok I hN hi hx r (fun s' I' => ⟨_, H, I', h⟩) hf)
def gNil : TGs := fun vs σ H Q => vs = [] ∧ Q σ H
def gCons (t : TG) (u : TGs) : TGs := fun vs σ H Q => ∃ v r, vs = v :: r ∧ t v σ H fun σ' H' => u r σ' H' Q
theorem pgs_nil : PGs X [] gNil := by
  intro pins s σ H vs us Q I r h
  obtain ⟨e, h⟩ := h
  subst e
  cases r
  exact assignInOrder_nil ⟨σ, H, I, h⟩
theorem pgs_cons {e : Expr} {es : List Expr} {t : TG} {u : TGs} (h1 : PG X e t) (h2 : PGs X es u)
    (hs : (assignEach (e :: es) X.env).map (·.2) = assign e X.env :: (assignEach es X.env).map (·.2) := by rfl) : PGs X (e :: es) (gCons t u) := by
  intro pins s σ H vs us Q I r h
  obtain ⟨v, vr, e1, h⟩ := h
  subst e1
  cases r with
  | cons r rr =>
    rw [hs]
    refine assignInOrder_cons (thn (h1 pins s σ H _ _ _ I r h) fun _ s1 ⟨σ1, H1, I1, q1⟩ => ?_)
    exact h2 pins s1 σ1 H1 _ _ Q I1 rr q1
/-- (a, b, ..) = a tuple of that length -/
def gTup (K : PySem.W.Frag) (n : Nat) (t : TGs) : TG := fun v σ H Q => ∃ a xs, v = .ref a ∧ SqT K H a xs ∧ xs.length = n ∧ t xs σ H Q
theorem pg_tup {es : List Expr} {k : Nat} {t : TGs} {n : Nat} (hc : X.calm = true) (h : PGs X es t)
    (hn : (assignEach es X.env).length = n := by rfl) (hst : (assignEach es X.env).findIdx? (·.1) = none := by rfl) : PG X (.Tuple es k pos) (gTup X.K n t) := by
  intro pins s σ H v u Q I r hw
  obtain ⟨a, xs, e1, hq, hl, hw⟩ := hw
  subst e1
  cases r
  obtain ⟨its, rv, ht, hz⟩ := I.tuple hq
  refine assign_Tuple_tuple (I.ok.hd hc) ht (by simp [hn, ← hl, rv.length]) hst fun h' hx => ?_
  have I1 : Inv X pins σ H { s with heap := h' } := I.kept (t' := s.toks) fun b o e => hx b o (Nat.ne_of_lt (Heap.lt_size e)) e
  exact h pins _ σ H xs _ Q I1 (by simpa using rv) hw
/-- o[i] = .. -/
def gSub (to ti : TE) (t : TSet) : TG := fun v σ H Q => to σ H fun o H1 => ti σ H1 fun i H2 => t o i v H2 fun H3 => Q σ H3
theorem pg_sub {o i : Expr} {to ti : TE} {t : TSet} (ho : PE X o to) (hi : PE X i ti) (hs : PSet X t)
    (ha : ∀ v, assign (.Subscript o i pos) X.env v = (do
      let ov ← holding [v] (eval o X.env)
      let iv ← holding [v, ov] (eval i X.env)
      standAt pos
      holding [v, ov, iv] (setItem ov iv v)
      release [v, ov, iv] []) := by intro _; rfl) : PG X (.Subscript o i pos) (gSub to ti t) := by
  intro pins s σ H v u Q I r h
  rw [ha]
  refine wpAny_bind (wpAny_holding (thn (ho pins s σ H _ I h) fun ov s1 ⟨x, H1, I1, r1, q1⟩ => ?_))
  refine wpAny_bind (wpAny_holding (thn (hi pins s1 σ H1 _ I1 q1) fun iv s2 ⟨y, H2, I2, r2, q2⟩ => ?_))
  refine wpAny_bind (wpAny_standAt (wpAny_bind (wpAny_holding (thn (hs pins s2 σ H2 x y v ov iv u _ I2 r1 r2 r q2) fun _ s3 ⟨H3, I3, q3⟩ => ?_))))
  exact wpAny_release ⟨σ, H3, I3, q3⟩
/-- target = value -/
def tAsg (te : TE) (g : TG) : TS := fun D σ H => te σ H fun x H1 => g x σ H1 D.nx
theorem ps_asg {tg e : Expr} {te : TE} {g : TG} (he : PE X e te) (hg : PG X tg g) (hs : swapsWithSole [tg] e pos.line X.env = pure false := by rfl) (hw : swappedStores [tg] e X.env = pure none := by rfl)
    (h1 : (assignEach [tg] X.env).map (·.2) = [assign tg X.env] := by rfl) : PS X (.Assign [tg] e pos) (tAsg te g) := by
  intro pins s σ H D I h
  refine wpAny_Assign_stores (thn (he pins s σ H _ I h) fun v s1 ⟨x, H1, I1, r1, q1⟩ => ?_) hs hw
  rw [h1]
  exact thn (hg pins s1 σ H1 x v _ I1 r1 q1) fun _ s2 q => q
/-- name = value -/
theorem ps_set {i : Nat} {x : Str} {e : Expr} {te : TE} {pos' : Pos} (hN : X.N.Nodup) (hi : X.N[i]? = some x) (hx : Loc X.env.scope x) (he : PE X e te) (hs : swapsWith e (some (.Name x pos')) pos.line X.env = pure false := by rfl) (hf : X.fn x = true ∨ X.env.scope.names.lookup x = some .local := by first | exact .inl rfl | exact .inr rfl | assumption) :
    PS X (.Assign [.Name x pos'] e pos) (tAsg te (gName i)) := by
  intro pins s σ H D I h
  refine wpAny_Assign_Name (thn (he pins s σ H _ I h) fun v s1 ⟨y, H1, I1, r1, q1⟩ => ?_) hs
  exact store_ok I1 hN hi hx r1 (fun s2 I2 => ⟨_, H1, I2, q1⟩) hf
/-- a, b = x, y with plain local names: stored from the right; the pair itself is not tracked (the opening rows as in PyProof/Rows/TupAssign.lean:23) -/
def tPar (i j : Nat) (ta : TA) : TS := fun D σ H => ta σ H fun vs H1 => ∃ v w, vs = [v, w] ∧ D.nx ((σ.set i (some v)).set j (some w)) H1
theorem ps_par {i j : Nat} {x y : Str} {a b : Expr} {ta : TA} {px py pt : Pos} {kt k2 pt2} (hc : X.calm = true) (hN : X.N.Nodup) (hi : X.N[i]? = some x) (hj : X.N[j]? = some y) (hij : i ≠ j)
    (hx : X.env.scope.names.lookup x = some .local) (hy : X.env.scope.names.lookup y = some .local) (ha : PA X [a, b] ta)
    (hw : swappedStores [.Tuple [.Name x px, .Name y py] kt pt] (.Tuple [a, b] k2 pt2) X.env = pure (some [x, y]))
    (hs : swapsWithSole [.Tuple [.Name x px, .Name y py] kt pt] (.Tuple [a, b] k2 pt2) pos.line X.env = pure false := by rfl) :
    PS X (.Assign [.Tuple [.Name x px, .Name y py] kt pt] (.Tuple [a, b] k2 pt2) pos) (tPar i j ta) := by
  intro pins s σ H D I h
  rw [exec_Assign_arm]
  refine wpAny_bind (wpAny_standAt ?_)
  rw [hs]
  refine wpAny_bind (wpAny_pure ?_)
  rw [if_neg (by decide)]
  refine wpAny_bind (Tuple_ (thn (ha _ pins s σ H _ I h) fun us s1 ⟨vs, H1, I1, r1, q1⟩ => ?_))
  obtain ⟨v, w, e1, q1⟩ := q1
  subst e1
  obtain ⟨u1, u2, rfl, rv, rw'⟩ : ∃ u1 u2, us = [u1, u2] ∧ RelV v u1 ∧ RelV w u2 := by
    cases r1 with
    | cons p q =>
      cases q with
      | cons p' q' =>
        cases q'
        exact ⟨_, _, rfl, p, p'⟩
  refine wpAny_newObj_type ?_ (by show 2 ≤ sizeLine; decide)
  have I2 : Inv X pins σ H1 { s1 with heap := s1.heap.push { cls := .type "tuple", data := .seq [u1, u2].toArray } } := I1.kept (t' := s1.toks) fun b o e => Heap.get?_push_of_some _ e
  rw [hw]
  refine wpAny_bind (wpAny_pure ?_)
  show wpAny (model X.prog X.w) X.A (do rule "assign.swapped-stores"; let items ← unpackItems (.ref s1.heap.objs.size) 2 none; assignInOrder [fun v => bindName X.env y v, fun v => bindName X.env x v] items.reverse; pure Flow.next) _ _ _
  refine wpAny_bind (wpAny_rule (wpAny_bind (unpackItems_tuple (items := #[u1, u2]) (I.ok.hd hc) (IsTup.new s1.heap _) fun h' hx' => ?_)))
  have I3 := I2.kept (h' := h') (t' := s1.toks) fun b o e => hx' b o (Nat.ne_of_lt (Heap.lt_size e)) e
  show wpAny _ _ (assignInOrder [fun v => bindName X.env y v, fun v => bindName X.env x v] [u2, u1] >>= fun _ => pure Flow.next) _ _ _
  refine wpAny_bind (assignInOrder_cons (wpAny_bindName (store_ok I3 hN hj (.inl hy) rw' (fun s2 I4 => ?_) (.inr hy))))
  refine assignInOrder_cons (wpAny_bindName (store_ok I4 hN hi (.inl hx) rv (fun s3 I5 => assignInOrder_nil (wpAny_pure ?_)) (.inr hx)))
  rw [List.set_comm _ _ (Ne.symm hij)] at I5
  exact ⟨_, H1, I5, q1⟩
/-- name op= e -/
def tAug (i : Nat) (te : TE) (ti : TIp) : TS := fun D σ H => ∃ x, σ[i]? = some (some x) ∧ te σ H fun y H1 => ti x y H1 fun z H2 => D.nx (σ.set i (some z)) H2
theorem ps_aug {i : Nat} {x : Str} {e : Expr} {te : TE} {op : Operator} {ti : TIp} {pos' : Pos} (hN : X.N.Nodup) (hi : X.N[i]? = some x) (hx : Loc X.env.scope x) (he : PE X e te) (ho : PIp X op ti) (hf : X.fn x = true ∨ X.env.scope.names.lookup x = some .local := by first | exact .inl rfl | exact .inr rfl | assumption) :
    PS X (.AugAssign (.Name x pos') op e pos) (tAug i te ti) := by
  intro pins s σ H D I h
  obtain ⟨v, e1, h⟩ := h
  obtain ⟨m, hn, hl⟩ := I.loc
  have vis : Vis X.env.scope x := by rcases hx with k | k; exact .inl k; exact .inr (.inl k)
  obtain ⟨u, r, l⟩ := hl i x v hi e1 vis
  refine wpAny_AugAssign_Name ?_
  have go : wpAny (model X.prog X.w) X.A (eval e X.env) (fun w s₂ => wpAny (model X.prog X.w) X.A (inplaceOp op u w) (fun r s₃ => wpAny (model X.prog X.w) X.A (storeName X.env x r) (fun _ => SP X pins D .next) X.xe s₃) X.xe s₂) X.xe s := by
    refine thn (he pins s σ H _ I h) fun w s1 ⟨y, H1, I1, r1, q1⟩ => ?_
    refine thn (ho pins s1 σ H1 v y u w _ I1 r r1 q1) fun z s2 ⟨zv, H2, I2, r2, q2⟩ => ?_
    exact store_ok I2 hN hi hx r2 (fun s3 I3 => ⟨_, H2, I3, q2⟩) hf
  rcases l with ⟨hk, hm⟩ | ⟨hk, c, hc, hcell⟩
  · exact wpAny_loadName_local I.ok.kind hk hn hm go
  · rcases hk with hk | hk
    · exact wpAny_loadName_cell I.ok.kind hk hc hcell go
    · rcases hx with k | k
      · have : X.env.scope.names.lookup x = some .free := hk
        rw [k] at this; cases this
      · have : X.env.scope.names.lookup x = some .free := hk
        rw [k] at this; cases this
/-- o[i] op= e -/
def tAugS (to ti te : TE) (tget : V → V → Hp → VK → Prop) (tip : TIp) (tset : TSet) : TS := fun D σ H => to σ H fun o H1 => ti σ H1 fun i H2 => tget o i H2 fun x H3 => te σ H3 fun y H4 => tip x y H4 fun z H5 => tset o i z H5 fun H6 => D.nx σ H6
/-- o[i], by values -/
def PGet (X : Cx) (t : V → V → Hp → VK → Prop) : Prop :=
  ∀ (pins : List (Addr × Obj)) (s : Shared) (σ : St) (H : Hp) (o i : V) (ov iv : Value) (Q : VK), Inv X pins σ H s → RelV o ov → RelV i iv → t o i H Q →
    wpAny (model X.prog X.w) X.A (getItem ov iv) (EP X pins σ Q) X.xe s
theorem ps_augS {o i e : Expr} {to ti te : TE} {tget : V → V → Hp → VK → Prop} {tip : TIp} {tset : TSet} {op : Operator} {tpos : Pos} (ho : PE X o to) (hi : PE X i ti) (hg : PGet X tget) (he : PE X e te) (hp : PIp X op tip) (hs : PSet X tset)
    (ha : ∀ ov iv new, augStore i ov iv new = (do holding [new, ov, iv] (setItem ov iv new); release [new, ov, iv] []; pure .next) := by intros; rfl) : PS X (.AugAssign (.Subscript o i tpos) op e pos) (tAugS to ti te tget tip tset) := by
  intro pins s σ H D I h
  refine wpAny_AugAssign_SubscriptAny (thn (ho pins s σ H _ I h) fun ov s1 ⟨x1, H1, I1, r1, q1⟩ => ?_) ha
  refine thn (hi pins s1 σ H1 _ I1 q1) fun iv s2 ⟨x2, H2, I2, r2, q2⟩ => ?_
  refine thn (hg pins s2 σ H2 x1 x2 ov iv _ I2 r1 r2 q2) fun old s3 ⟨x3, H3, I3, r3, q3⟩ => ?_
  refine thn (he pins s3 σ H3 _ I3 q3) fun v s4 ⟨x4, H4, I4, r4, q4⟩ => ?_
  refine thn (hp pins s4 σ H4 x3 x4 old v _ I4 r3 r4 q4) fun new s5 ⟨x5, H5, I5, r5, q5⟩ => ?_
  exact thn (hs pins s5 σ H5 x1 x2 x5 ov iv new _ I5 r1 r2 r5 q5) fun _ s6 ⟨H6, I6, q6⟩ => ⟨σ, H6, I6, q6⟩
/-- ints -/
def ipI (f : Int → Int → Int) : TIp := fun x y H Q => ∃ i j, x = .int i ∧ y = .int j ∧ Q (.int (f i j)) H
theorem ip_add : PIp X .Add (ipI fun i j => i + j) := by
  intro pins s σ H x y v u Q I r1 r2 h
  obtain ⟨i, j, e1, e2, q⟩ := h
  subst e1; subst e2
  obtain ⟨t, rfl⟩ := r1
  obtain ⟨t', rfl⟩ := r2
  exact iadd_int ⟨.int _, H, I.tok _, ⟨_, rfl⟩, q⟩
theorem ip_sub : PIp X .Sub (ipI fun i j => i - j) := by
  intro pins s σ H x y v u Q I r1 r2 h
  obtain ⟨i, j, e1, e2, q⟩ := h
  subst e1; subst e2
  obtain ⟨t, rfl⟩ := r1
  obtain ⟨t', rfl⟩ := r2
  exact isub_int ⟨.int _, H, I.tok _, ⟨_, rfl⟩, q⟩
end

/-! ### while -/
section
variable {X : Cx} {pos : Pos}
/-- the invariant W with its measure -/
def tWhile (c : TT) (tb : TS) : TS := fun D σ H => ∃ W : Nat → St → Hp → Prop, (∃ m, W m σ H) ∧ ∀ m σ H, W m σ H →
  c σ H fun b H1 => if b = true then ∃ N : St → Hp → Prop, (∀ σ' H', N σ' H' → ∃ m', m' < m ∧ W m' σ' H') ∧ tb { D with nx := N, ct := N, bk := D.nx } σ H1 else D.nx σ H1
theorem ps_while {c : Expr} {body : List Stmt} {tc : TT} {tb : TS} (hp : PassesOwn (model X.prog X.w) X.A X.env X.xe) (hc : PT X c tc) (hb : PSs X body tb) : PS X (.While c body [] pos) (tWhile tc tb) := by
  intro pins s σ H D I h
  obtain ⟨W, ⟨m0, w0⟩, turn⟩ := h
  refine wpAny_While (codeAny_whileLoop (fun n s' => ∃ σ' H', Inv X pins σ' H' s' ∧ W n σ' H') ?_ m0 ⟨σ, H, I, w0⟩)
  rintro n s1 ⟨σ1, H1, I1, w1⟩
  refine wpAny_passesOwn hp (thn (hc pins s1 σ1 H1 _ I1 (turn n σ1 H1 w1)) fun b s2 ⟨H2, I2, q2⟩ => ?_)
  cases b with
  | true =>
    obtain ⟨N, hN, q2⟩ := q2
    rw [if_pos rfl]
    refine wpAny_passesOwn hp (thn (hb pins s2 σ1 H2 _ I2 q2) fun f s3 q3 => ?_)
    cases f with
    | next =>
      obtain ⟨σ3, H3, I3, n3⟩ := q3
      obtain ⟨m', hm, w3⟩ := hN σ3 H3 n3
      exact ⟨m', hm, σ3, H3, I3, w3⟩
    | cont =>
      obtain ⟨σ3, H3, I3, n3⟩ := q3
      obtain ⟨m', hm, w3⟩ := hN σ3 H3 n3
      exact ⟨m', hm, σ3, H3, I3, w3⟩
    | brk => exact q3
    | ret v => exact q3
  | false =>
    rw [if_neg Bool.false_ne_true]
    exact wpAny_execs_nil ⟨σ1, H2, I2, q2⟩
end

/-! ### what a loop or a comprehension walks -/
/-- at turn i: it yields x (the heap may grow), or it stops -/
structure It where
  go : Nat → Hp → Prop
  yld : Nat → Hp → V → Hp → Prop
  stop : Nat → Hp → Prop
/-- the iterator's own objects may turn: they are not the frame's, not pinned, younger than the entry (or a comprehension's own) -/
def FpOk (X : Cx) (pins : List (Addr × Obj)) (H : Hp) (b : Addr) : Prop :=
  H b = none ∧ b ≠ X.env.locals ∧ b ∉ X.fs ∧ (b ∈ X.ex ∨ X.s₀.heap.objs.size ≤ b) ∧ (∀ x c, X.env.cells.lookup x = some c → c ≠ b) ∧ ∀ p ∈ X.pn ++ pins, p.1 ≠ b
theorem Inv.fpOk {X : Cx} {pins : List (Addr × Obj)} {σ : St} {H H' : Hp} {s : Shared} {b : Addr} (I : Inv X pins σ H s) (hb : s.heap.objs.size ≤ b) (hn : H' b = none) : FpOk X pins H' b := by
  refine ⟨hn, Nat.ne_of_gt (Nat.lt_of_lt_of_le I.lt hb), I.nofs hb, .inr (Nat.le_trans I.sz hb), fun x c e z => ?_, fun p hp z => ?_⟩
  · obtain ⟨v, q⟩ := I.cell x c e
    exact absurd (Nat.lt_of_lt_of_le q.lt (by rw [z]; exact hb)) (Nat.lt_irrefl _)
  · exact absurd (Nat.lt_of_lt_of_le (Heap.lt_size (I.pin p hp).1) (by rw [z]; exact hb)) (Nat.lt_irrefl _)
structure Turn (P : Program) (w : World) (K : PySem.W.Frag) (tg : Expr) (J : It) (fp : List Addr) (it : Addr) (tn : Nat → Heap → Prop) : Prop where
  mem : it ∈ fp
  obj : ∀ i h, tn i h → ∀ b ∈ fp, ∃ o, h.get? b = some o ∧ ∀ v, o.data ≠ .cell v
  keep : ∀ i h h', tn i h → (∀ b ∈ fp, ∀ o, h.get? b = some o → h'.get? b = some o) → tn i h'
  item : ∀ (X : Cx), X.prog = P → X.w = w → X.K = K → X.calm = true → ∀ (i : Nat) (pins : List (Addr × Obj)) (s : Shared) (σ : St) (H : Hp) (E : Value → Shared → Prop), Inv X pins σ H s → (∀ b ∈ fp, FpOk X pins H b) → tn i s.heap → J.go i H →
    wpAny (model P w) X.A (pyNext (.ref it)) (fun r s1 => ∃ u, r = some u ∧
      wpAny (model P w) X.A (letOwnedTupleGo tg (.ref it) u) (fun _ s2 => ∃ x H', Inv X pins σ H' s2 ∧ RelV x u ∧ J.yld i H x H' ∧ tn (i + 1) s2.heap ∧ ∀ b ∈ fp, H' b = none) E s1) E s
  done : ∀ (X : Cx), X.prog = P → X.w = w → X.K = K → X.calm = true → ∀ (i : Nat) (pins : List (Addr × Obj)) (s : Shared) (σ : St) (H : Hp) (E : Value → Shared → Prop), Inv X pins σ H s → (∀ b ∈ fp, FpOk X pins H b) → tn i s.heap → J.stop i H →
    wpAny (model P w) X.A (pyNext (.ref it)) (fun r s1 => r = none ∧ Inv X pins σ H s1) E s
  self : ∀ (A : Around) (i : Nat) (s : Shared) (Q : Value → Shared → Prop) (E : Value → Shared → Prop), tn i s.heap → Q (.ref it) s → wpAny (model P w) A (pyIter (.ref it)) Q E s
abbrev TI := St → Hp → (It → Hp → Prop) → Prop
/-- an iterator has come -/
def PIE (X : Cx) (pins : List (Addr × Obj)) (σ : St) (tg : Expr) (R : It → Hp → Prop) (itv : Value) (s2 : Shared) : Prop :=
  ∃ (it : Addr) (fp : List Addr) (tn : Nat → Heap → Prop) (J : It) (H' : Hp), itv = .ref it ∧ Inv X pins σ H' s2 ∧ Turn X.prog X.w X.K tg J fp it tn ∧ tn 0 s2.heap ∧ (∀ b ∈ fp, FpOk X pins H' b) ∧ R J H'
def PI (X : Cx) (tg iter : Expr) (wi : TI) : Prop :=
  ∀ (pins : List (Addr × Obj)) (s : Shared) (σ : St) (H : Hp) (R : It → Hp → Prop), Inv X pins σ H s → wi σ H R →
    wpAny (model X.prog X.w) X.A (eval iter X.env) (fun v s1 => wpAny (model X.prog X.w) X.A (pyIter v) (PIE X pins σ tg R) X.xe s1) X.xe s

/-- the step ahead of the store is nothing for an iterator that keeps no tuple -/
theorem go_of {M : Model} {A : Around} {E : Value → Shared → Prop} {s : Shared} {tg : Expr} {it : Addr} {u : Value} {o : Obj} {n : String} {vs : Array Value} {Q : Unit → Shared → Prop} (ho : s.heap.get? it = some o) (hc : o.cls = .type n) (hd : o.data = .fields vs)
    (hn : ["enumerate", "zip", "dict_itemiterator", "dict_reverseitemiterator", "odict_iterator", "itertools.zip_longest", "itertools.pairwise"].contains n = false) (hQ : Q () s) : wpAny M A (letOwnedTupleGo tg (.ref it) u) Q E s := by
  unfold letOwnedTupleGo
  cases tg <;> first
    | exact wpAny_pure hQ
    | (cases u <;> first
        | exact wpAny_pure hQ
        | (refine wpAny_bind (wpAny_load ho ?_)
           rw [hc, hd]
           show wpAny M A (if (["enumerate", "zip", "dict_itemiterator", "dict_reverseitemiterator", "odict_iterator", "itertools.zip_longest", "itertools.pairwise"].contains n && vs[0]? == some (rawInt _)) = true then _ else _) Q E s
           rw [if_neg (by intro h; rw [hn, Bool.false_and] at h; cases h)]
           exact wpAny_pure hQ))

/-- the list at a, as it stands at each turn (a loop may append to it) -/
def Itl (K : PySem.W.Frag) (a : Addr) : It :=
  ⟨fun i H => ∃ xs x, SqL K H a xs ∧ xs[i]? = some x, fun i H x H' => H' = H ∧ ∀ xs, SqL K H a xs → xs[i]? = some x, fun i H => ∃ xs, SqL K H a xs ∧ xs.length ≤ i⟩
def Itt (K : PySem.W.Frag) (a : Addr) : It :=
  ⟨fun i H => ∃ xs x, SqT K H a xs ∧ xs[i]? = some x, fun i H x H' => H' = H ∧ ∀ xs, SqT K H a xs → xs[i]? = some x, fun i H => ∃ xs, SqT K H a xs ∧ xs.length ≤ i⟩
/-- lo, lo + 1, .. (n of them) -/
def Itr (lo : Int) (n : Nat) : It := ⟨fun i _ => i < n, fun i H x H' => H' = H ∧ x = .int (lo + i), fun i _ => n ≤ i⟩
theorem turn_list {P : Program} {w : World} {K : PySem.W.Frag} {tg : Expr} (a it : Addr) : Turn P w K tg (Itl K a) [it] it (fun i h => h.IsListIter it a i) where
  mem := by simp
  obj := fun i h st b hb => by
    have e : b = it := by simpa using hb
    subst e
    obtain ⟨o, e, c, d⟩ := st
    exact ⟨o, e, fun v z => by rw [d] at z; cases z⟩
  keep := fun i h h' st k => st.at fun o e => k it (by simp) o e
  item := by
    intro X hP hw hK hc i pins s σ H E I hf st hg
    subst hP hw hK
    obtain ⟨xs, x, hq, hx⟩ := hg
    obtain ⟨its, rv, p, hz⟩ := I.list hq
    obtain ⟨u, hu, ru⟩ := rv.get hx
    obtain ⟨f0, f1, f2, f3, f4, f5⟩ := hf it (by simp)
    refine wpAny_pyNext_list_item st p.isList (x := u) (by simpa using hu) fun h' st' sb => ?_
    have I1 : Inv X pins σ H { s with heap := h' } := I.turned (t' := s.toks) (fun b o hb e => (sb.2 b hb).trans e) f0 f1 f3 f4 f5
    obtain ⟨o, e, c, d⟩ := id st'
    exact ⟨u, rfl, go_of (s := { s with heap := h' }) e c d (by decide) ⟨x, H, I1, ru, ⟨rfl, fun ys hy => by rw [I.list_inj hy hq]; exact hx⟩, st', fun b hb => (hf b hb).1⟩⟩
  done := by
    intro X hP hw hK hc i pins s σ H E I hf st hg
    subst hP hw hK
    obtain ⟨xs, hq, hx⟩ := hg
    obtain ⟨its, rv, p, hz⟩ := I.list hq
    obtain ⟨f0, f1, f2, f3, f4, f5⟩ := hf it (by simp)
    have hl := rv.length
    exact wpAny_pyNext_list_end (I.ok.hd hc) st p.isList (by simp; omega) fun h' eb => ⟨rfl, I.turned (t' := s.toks) (fun b o hb e => eb b o hb e) f0 f1 f3 f4 f5⟩
  self := fun _ _ _ _ _ st h => wpAny_pyIter_listiter st h
theorem turn_tuple {P : Program} {w : World} {K : PySem.W.Frag} {tg : Expr} (a it : Addr) : Turn P w K tg (Itt K a) [it] it (fun i h => h.IsTupleIter it a i) where
  mem := by simp
  obj := fun i h st b hb => by
    have e : b = it := by simpa using hb
    subst e
    obtain ⟨o, e, c, d⟩ := st
    exact ⟨o, e, fun v z => by rw [d] at z; cases z⟩
  keep := fun i h h' st k => st.at fun o e => k it (by simp) o e
  item := by
    intro X hP hw hK hc i pins s σ H E I hf st hg
    subst hP hw hK
    obtain ⟨xs, x, hq, hx⟩ := hg
    obtain ⟨its, rv, p, hz⟩ := I.tuple hq
    obtain ⟨u, hu, ru⟩ := rv.get hx
    obtain ⟨f0, f1, f2, f3, f4, f5⟩ := hf it (by simp)
    refine wpAny_pyNext_tuple_item st (show s.heap.IsTuple a its.toArray from p) (x := u) (by simpa using hu) fun h' st' sb => ?_
    have I1 : Inv X pins σ H { s with heap := h' } := I.turned (t' := s.toks) (fun b o hb e => (sb.2 b hb).trans e) f0 f1 f3 f4 f5
    obtain ⟨o, e, c, d⟩ := id st'
    exact ⟨u, rfl, go_of (s := { s with heap := h' }) e c d (by decide) ⟨x, H, I1, ru, ⟨rfl, fun ys hy => by rw [I.tuple_inj hy hq]; exact hx⟩, st', fun b hb => (hf b hb).1⟩⟩
  done := by
    intro X hP hw hK hc i pins s σ H E I hf st hg
    subst hP hw hK
    obtain ⟨xs, hq, hx⟩ := hg
    obtain ⟨its, rv, p, hz⟩ := I.tuple hq
    obtain ⟨f0, f1, f2, f3, f4, f5⟩ := hf it (by simp)
    have hl := rv.length
    exact wpAny_pyNext_tuple_end (I.ok.hd hc) st (show s.heap.IsTuple a its.toArray from p) (by simp; omega) fun h' eb => ⟨rfl, I.turned (t' := s.toks) (fun b o hb e => eb b o hb e) f0 f1 f3 f4 f5⟩
  self := fun _ _ _ _ _ st h => wpAny_pyIter_tupleiter st h
theorem turn_range {P : Program} {w : World} {K : PySem.W.Frag} {tg : Expr} (it : Addr) (lo : Int) (n : Nat) : Turn P w K tg (Itr lo n) [it] it (fun i h => IsRangeIter h it (lo + (i : Nat) * 1) ((n : Int) - (i : Nat)) 1) where
  mem := by simp
  obj := fun i h st b hb => by
    have e : b = it := by simpa using hb
    subst e
    exact ⟨_, st, fun v z => by
      have z' : Data.fields _ = Data.cell v := z
      cases z'⟩
  keep := fun i h h' st k => k it (by simp) _ st
  item := by
    intro X hP hw hK hc i pins s σ H E I hf st hg
    subst hP hw hK
    obtain ⟨f0, f1, f2, f3, f4, f5⟩ := hf it (by simp)
    have W := Walks.range (prog := X.prog) (w := X.w) (I.ok.hd hc) it lo 1 n
    refine W.item i s _ _ hg st fun v h' tk hv st' kk => ?_
    obtain ⟨t, rfl⟩ := hv
    have I1 : Inv X pins σ H { s with heap := h', toks := tk } := I.turned (fun b o hb e => kk b o (by simpa using hb) e) f0 f1 f3 f4 f5
    refine ⟨_, rfl, go_of (s := { s with heap := h', toks := tk }) (n := "range_iterator") st' rfl rfl (by decide) ⟨.int (lo + i), H, I1, ⟨t, ?_⟩, ⟨rfl, rfl⟩, st', fun b hb => (hf b hb).1⟩⟩
    rw [Int.mul_one]
  done := by
    intro X hP hw hK hc i pins s σ H E I hf st hg
    subst hP hw hK
    obtain ⟨f0, f1, f2, f3, f4, f5⟩ := hf it (by simp)
    exact wpAny_pyNext_range_end (I.ok.hd hc) st (by have : n ≤ i := hg; omega) fun h' eb => ⟨rfl, I.turned (t' := s.toks) (fun b o hb e => eb b o hb e) f0 f1 f3 f4 f5⟩
  self := fun _ _ _ _ _ st h => wpAny_pyIter_rangeiter st h
end L2

namespace L2
open PySem PySem.Spec PyProof.Rows
section
variable {X : Cx} {tg : Expr}
def iList (K : PySem.W.Frag) (tl : TE) : TI := fun σ H R => tl σ H fun x H1 => ∃ a, x = .ref a ∧ (∃ xs, SqL K H1 a xs) ∧ R (Itl K a) H1
def iTup (K : PySem.W.Frag) (tl : TE) : TI := fun σ H R => tl σ H fun x H1 => ∃ a, x = .ref a ∧ (∃ xs, SqT K H1 a xs) ∧ R (Itt K a) H1
theorem pi_list {l : Expr} {tl : TE} (hl : PE X l tl) : PI X tg l (iList X.K tl) := by
  intro pins s σ H R I h
  refine thn (hl pins s σ H _ I h) fun v s1 ⟨x, H1, I1, r1, q1⟩ => ?_
  obtain ⟨a, e, ⟨xs, hq⟩, q⟩ := q1
  subst e
  cases r1
  obtain ⟨its, rv, p, hz⟩ := I1.list hq
  refine wpAny_pyIter_list p.isList ?_
  refine ⟨s1.heap.objs.size, [s1.heap.objs.size], _, _, H1, rfl, I1.kept (t' := s1.toks) fun b o e => Heap.get?_push_of_some _ e, turn_list a _, ⟨_, Heap.get?_push_size _ rfl, rfl, rfl⟩, fun b hb => ?_, q⟩
  have e : b = s1.heap.objs.size := by simpa using hb
  subst e
  exact I1.fpOk (Nat.le_refl _) (I1.hok.fresh (Nat.le_refl _))
theorem pi_tup {l : Expr} {tl : TE} (hl : PE X l tl) : PI X tg l (iTup X.K tl) := by
  intro pins s σ H R I h
  refine thn (hl pins s σ H _ I h) fun v s1 ⟨x, H1, I1, r1, q1⟩ => ?_
  obtain ⟨a, e, ⟨xs, hq⟩, q⟩ := q1
  subst e
  cases r1
  obtain ⟨its, rv, p, hz⟩ := I1.tuple hq
  refine wpAny_pyIter_tuple (show s1.heap.IsTuple a its.toArray from p) ?_
  refine ⟨s1.heap.objs.size, [s1.heap.objs.size], _, _, H1, rfl, I1.kept (t' := s1.toks) fun b o e => Heap.get?_push_of_some _ e, turn_tuple a _, ⟨_, Heap.get?_push_size _ rfl, rfl, rfl⟩, fun b hb => ?_, q⟩
  have e : b = s1.heap.objs.size := by simpa using hb
  subst e
  exact I1.fpOk (Nat.le_refl _) (I1.hok.fresh (Nat.le_refl _))
/-- a range object just made, walked -/
theorem range_it {pins : List (Addr × Obj)} {σ : St} {H : Hp} {s : Shared} {R : It → Hp → Prop} {E : Value → Shared → Prop} {lo hi : Int} {t u v : Tok} {tk : Nat} (I : Inv X pins σ H s) (h1 : -(2 ^ 62) ≤ lo) (h2 : lo < 2 ^ 62) (h3 : -(2 ^ 62) ≤ hi) (h4 : hi < 2 ^ 62)
    (q : R (Itr lo (hi - lo).toNat) H) : wpAny (model X.prog X.w) X.A (pyIter (.ref s.heap.objs.size)) (PIE X pins σ tg R) E { s with heap := s.heap.push { cls := .type "range", data := .fields #[.int lo t, .int hi u, .int 1 v] }, toks := tk } := by
  refine wpAny_pyIter_range (IsRange.new ..) (small_one h1 h2 h3 h4) ?_
  have I1 : Inv X pins σ H { s with heap := s.heap.push { cls := .type "range", data := .fields #[.int lo t, .int hi u, .int 1 v] }, toks := tk } := I.kept fun b o e => Heap.get?_push_of_some _ e
  refine ⟨(s.heap.push { cls := .type "range", data := .fields #[.int lo t, .int hi u, .int 1 v] }).objs.size, [(s.heap.push { cls := .type "range", data := .fields #[.int lo t, .int hi u, .int 1 v] }).objs.size], _, _, H, rfl,
    I1.kept (t' := tk) fun b o e => Heap.get?_push_of_some _ e, turn_range _ lo (hi - lo).toNat, ?_, fun b hb => ?_, q⟩
  · have e1 : lo + ((0 : Nat) : Int) * 1 = lo := by simp
    have e2 : (((hi - lo).toNat : Nat) : Int) - ((0 : Nat) : Int) = Builtin.Range.rangeSize lo hi 1 := by rw [rangeSize_one]; split <;> omega
    show IsRangeIter _ _ (lo + ((0 : Nat) : Int) * 1) ((((hi - lo).toNat : Nat) : Int) - ((0 : Nat) : Int)) 1
    rw [e1, e2]
    exact Heap.get?_push_size _ rfl
  · have e : b = (s.heap.push { cls := .type "range", data := .fields #[.int lo t, .int hi u, .int 1 v] }).objs.size := by simpa using hb
    subst e
    exact I1.fpOk (Nat.le_refl _) (I1.hok.fresh (Nat.le_refl _))
def iRng1 (ta : TA) : TI := fun σ H R => ta σ H fun vs H1 => ∃ j : Int, vs = [.int j] ∧ -(2 ^ 62) ≤ j ∧ j < 2 ^ 62 ∧ R (Itr 0 j.toNat) H1
def iRng2 (ta : TA) : TI := fun σ H R => ta σ H fun vs H1 => ∃ i j : Int, vs = [.int i, .int j] ∧ (-(2 ^ 62) ≤ i ∧ i < 2 ^ 62 ∧ -(2 ^ 62) ≤ j ∧ j < 2 ^ 62) ∧ R (Itr i (j - i).toNat) H1
theorem pi_range1 {a : Expr} {ta : TA} {p pos : Pos} (hg : Gl X "range") (hm : X.mg "range" = none) (ha : PA X [a] ta) (hs : starEach [a] X.env = [(false, eval a X.env)] := by rfl) : PI X tg (.Call (.Name "range" p) [a] [] pos) (iRng1 ta) := by
  intro pins s σ H R I h
  refine Call_ (ld_blt I hg hm boot_range (PyProof.Rows.callWith_type1 (thn (ha pos pins s σ H _ I h) fun us s1 ⟨vs, H1, I1, r1, q1⟩ => ?_) hs rfl))
  obtain ⟨j, e, q1, q2, q⟩ := q1
  subst e
  cases r1 with
  | cons r rr =>
    cases rr
    obtain ⟨t, rfl⟩ := r
    exact call_range_1 (range_it I1 (by omega) (by omega) q1 q2 (by simpa using q))
theorem pi_range2 {a b : Expr} {ta : TA} {p pos : Pos} (hg : Gl X "range") (hm : X.mg "range" = none) (ha : PA X [a, b] ta) (hs : starEach [a, b] X.env = [(false, eval a X.env), (false, eval b X.env)] := by rfl) (hs2 : starEach [b] X.env = [(false, eval b X.env)] := by rfl) :
    PI X tg (.Call (.Name "range" p) [a, b] [] pos) (iRng2 ta) := by
  intro pins s σ H R I h
  refine Call_ (ld_blt I hg hm boot_range (PyProof.Rows.callWith_type1 (thn (ha pos pins s σ H _ I h) fun us s1 ⟨vs, H1, I1, r1, q1⟩ => ?_) (by rw [hs, hs2]) (by rw [hs2]; rfl)))
  obtain ⟨i, j, e, ⟨q1, q2, q3, q4⟩, q⟩ := q1
  subst e
  cases r1 with
  | cons r rr =>
    cases rr with
    | cons r' rr =>
      cases rr
      obtain ⟨t, rfl⟩ := r
      obtain ⟨t', rfl⟩ := r'
      exact call_range_2 (range_it I1 q1 q2 q3 q4 q)

/-! ### for -/
/-- W: the invariant by the turn and a measure; N: what the body is to reach -/
def tFor (wi : TI) (g : TG) (tb : TS) : TS := fun D σ H => wi σ H fun J H1 => ∃ W : Nat → Nat → St → Hp → Prop, (∃ m, W 0 m σ H1) ∧ ∀ i m σ H, W i m σ H →
  (J.stop i H ∧ D.nx σ H) ∨ (J.go i H ∧ ∃ N : St → Hp → Prop, (∀ σ' H', N σ' H' → ∃ m', m' < m ∧ W (i + 1) m' σ' H') ∧ ∀ x H', J.yld i H x H' → g x σ H' fun σ2 H2 => tb { D with nx := N, ct := N, bk := D.nx } σ2 H2)
/-- the records at fp as they stand -/
def pinsAt (fp : List Addr) (h : Heap) : List (Addr × Obj) := fp.filterMap fun b => (h.get? b).map fun o => (b, o)
theorem mem_pinsAt {fp : List Addr} {h : Heap} {b : Addr} {o : Obj} (hb : b ∈ fp) (e : h.get? b = some o) : (b, o) ∈ pinsAt fp h := List.mem_filterMap.mpr ⟨b, hb, by rw [e]; rfl⟩
theorem of_pinsAt {fp : List Addr} {h : Heap} {p : Addr × Obj} (hp : p ∈ pinsAt fp h) : p.1 ∈ fp ∧ h.get? p.1 = some p.2 := by
  obtain ⟨b, hb, e⟩ := List.mem_filterMap.mp hp
  cases q : h.get? b with
  | none => rw [q] at e; cases e
  | some o =>
    rw [q] at e
    have e' : (b, o) = p := Option.some.inj e
    subst e'
    exact ⟨hb, q⟩
theorem Inv.pinned {pins : List (Addr × Obj)} {σ : St} {H : Hp} {s : Shared} {fp : List Addr} (I : Inv X pins σ H s) (hf : ∀ b ∈ fp, FpOk X pins H b) (ho : ∀ b ∈ fp, ∃ o, s.heap.get? b = some o ∧ ∀ v, o.data ≠ .cell v) : Inv X (pins ++ pinsAt fp s.heap) σ H s :=
  I.pins_of fun p hp => (List.mem_append.mp hp).elim (fun z => I.pin p (List.mem_append_right _ z)) fun z => by
    obtain ⟨hb, e⟩ := of_pinsAt z
    obtain ⟨f0, f1, f2, _⟩ := hf p.1 hb
    obtain ⟨o, e', d⟩ := ho p.1 hb
    rw [e] at e'; cases e'
    exact ⟨e, f0, f1, f2, d⟩
theorem Inv.unpinned {pins pl : List (Addr × Obj)} {σ : St} {H : Hp} {s : Shared} (I : Inv X (pins ++ pl) σ H s) : Inv X pins σ H s := I.pins_of fun p hp => I.pin p (List.mem_append_right _ (List.mem_append_left _ hp))
theorem ps_for {iter : Expr} {body : List Stmt} {wi : TI} {g : TG} {tb : TS} {pos : Pos} (hp : PassesOwn (model X.prog X.w) X.A X.env X.xe) (hc : X.calm = true) (hi : PI X tg iter wi) (hg : PG X tg g) (hb : PSs X body tb)
    (hs : ∀ x, foldedSetIterable iter X.env x = pure x := by intro _; rfl) : PS X (.For tg iter body [] pos) (tFor wi g tb) := by
  intro pins s σ H D I h
  refine wpAny_For (thn (hi pins s σ H _ I h) fun v s1 h1 => thn h1 fun itv s2 h2 => ?_) hs
  obtain ⟨it, fp, tn, J, H2, e, I2, T, st2, f2, W, ⟨m0, w0⟩, turn⟩ := h2
  subst e
  -- what stays true of the iterator's objects through the loop
  have stat : ∀ {H' : Hp}, (∀ b ∈ fp, H' b = none) → ∀ b ∈ fp, FpOk X pins H' b := fun hn b hb => ⟨hn b hb, (f2 b hb).2⟩
  refine codeAny_forLoop_any (fun n s' => ∃ i σ' H', Inv X pins σ' H' s' ∧ tn i s'.heap ∧ (∀ b ∈ fp, H' b = none) ∧ W i n σ' H') ?_ m0 ⟨0, σ, H2, I2, st2, fun b hb => (f2 b hb).1, w0⟩
  rintro n s3 ⟨i, σ3, H3, I3, st3, fr3, w3⟩
  rcases turn i n σ3 H3 w3 with ⟨stop, qn⟩ | ⟨go, N, hN, step⟩
  · refine wpAny_passesOwn hp (thn (T.done X rfl rfl rfl hc i pins s3 σ3 H3 X.xe I3 (stat fr3) st3 stop) fun r s4 ⟨hr, I4⟩ => ?_)
    subst hr
    exact wpAny_execs_nil ⟨σ3, H3, I4, qn⟩
  · refine wpAny_passesOwn hp (thn (T.item X rfl rfl rfl hc i pins s3 σ3 H3 X.xe I3 (stat fr3) st3 go) fun r s4 ⟨u, hr, h4⟩ => ?_)
    subst hr
    refine wpAny_passesOwn hp (thn h4 fun _ s5 ⟨x, H5, I5, r5, y5, st5, fr5⟩ => ?_)
    have I5' := I5.pinned (stat fr5) (T.obj _ _ st5)
    refine wpAny_passesOwn hp (thn (hg _ s5 σ3 H5 x u _ I5' r5 (step x H5 y5)) fun _ s6 ⟨σ6, H6, I6, q6⟩ => ?_)
    refine wpAny_passesOwn hp (thn (hb _ s6 σ6 H6 _ I6 q6) fun f s7 q7 => ?_)
    have again : ∀ {σ7 : St} {H7 : Hp}, Inv X (pins ++ pinsAt fp s5.heap) σ7 H7 s7 → N σ7 H7 → ∃ m, m < n ∧ ∃ i σ' H', Inv X pins σ' H' s7 ∧ tn i s7.heap ∧ (∀ b ∈ fp, H' b = none) ∧ W i m σ' H' := fun {σ7 H7} I7 n7 => by
      obtain ⟨m', hm, w7⟩ := hN σ7 H7 n7
      refine ⟨m', hm, i + 1, σ7, H7, I7.unpinned, T.keep _ _ _ st5 fun b hb o e => (I7.pin (b, o) (List.mem_append_right _ (List.mem_append_right _ (mem_pinsAt hb e)))).1, fun b hb => ?_, w7⟩
      obtain ⟨o, e, d⟩ := T.obj _ _ st5 b hb
      exact (I7.pin (b, o) (List.mem_append_right _ (List.mem_append_right _ (mem_pinsAt hb e)))).2.1
    cases f with
    | next => obtain ⟨σ7, H7, I7, n7⟩ := q7; exact again I7 n7
    | cont => obtain ⟨σ7, H7, I7, n7⟩ := q7; exact again I7 n7
    | brk => obtain ⟨σ7, H7, I7, q7⟩ := q7; exact ⟨σ7, H7, I7.unpinned, q7⟩
    | ret v => obtain ⟨x7, σ7, H7, I7, r7, q7⟩ := q7; exact ⟨x7, σ7, H7, I7.unpinned, r7, q7⟩
end

/-! ### the forms one uses -/
/-- over a list that the body leaves as it is -/
theorem for_list {K : PySem.W.Frag} {a : Addr} {xs : List V} {g : TG} {tb : TS} {D : Ends} {σ : St} {H : Hp} (Pv : Nat → St → Hp → Prop) (h0 : Pv 0 σ H) (hl : ∀ i σ H, i ≤ xs.length → Pv i σ H → SqL K H a xs)
    (hs : ∀ i x σ H, xs[i]? = some x → Pv i σ H → g x σ H fun σ2 H2 => tb { D with nx := Pv (i + 1), ct := Pv (i + 1), bk := D.nx } σ2 H2) (hd : ∀ σ H, Pv xs.length σ H → D.nx σ H) :
    ∃ W : Nat → Nat → St → Hp → Prop, (∃ m, W 0 m σ H) ∧ ∀ i m σ H, W i m σ H →
      ((Itl K a).stop i H ∧ D.nx σ H) ∨ ((Itl K a).go i H ∧ ∃ N : St → Hp → Prop, (∀ σ' H', N σ' H' → ∃ m', m' < m ∧ W (i + 1) m' σ' H') ∧ ∀ x H', (Itl K a).yld i H x H' → g x σ H' fun σ2 H2 => tb { D with nx := N, ct := N, bk := D.nx } σ2 H2) := by
  refine ⟨fun i m σ H => m = xs.length - i ∧ i ≤ xs.length ∧ Pv i σ H, ⟨xs.length, by simp, Nat.zero_le _, h0⟩, ?_⟩
  rintro i m σ H ⟨rfl, hi, p⟩
  have q := hl i σ H hi p
  by_cases hlt : i < xs.length
  · refine .inr ⟨⟨xs, xs[i], q, by simp [hlt]⟩, Pv (i + 1), fun σ' H' p' => ⟨xs.length - (i + 1), by omega, rfl, hlt, p'⟩, fun x H' y => ?_⟩
    obtain ⟨e, y⟩ := y
    subst e
    exact hs i x σ _ (y xs q) p
  · have e : i = xs.length := by omega
    subst e
    exact .inl ⟨⟨xs, q, Nat.le_refl _⟩, hd σ H p⟩
theorem for_tup {K : PySem.W.Frag} {a : Addr} {xs : List V} {g : TG} {tb : TS} {D : Ends} {σ : St} {H : Hp} (Pv : Nat → St → Hp → Prop) (h0 : Pv 0 σ H) (hl : ∀ i σ H, i ≤ xs.length → Pv i σ H → SqT K H a xs)
    (hs : ∀ i x σ H, xs[i]? = some x → Pv i σ H → g x σ H fun σ2 H2 => tb { D with nx := Pv (i + 1), ct := Pv (i + 1), bk := D.nx } σ2 H2) (hd : ∀ σ H, Pv xs.length σ H → D.nx σ H) :
    ∃ W : Nat → Nat → St → Hp → Prop, (∃ m, W 0 m σ H) ∧ ∀ i m σ H, W i m σ H →
      ((Itt K a).stop i H ∧ D.nx σ H) ∨ ((Itt K a).go i H ∧ ∃ N : St → Hp → Prop, (∀ σ' H', N σ' H' → ∃ m', m' < m ∧ W (i + 1) m' σ' H') ∧ ∀ x H', (Itt K a).yld i H x H' → g x σ H' fun σ2 H2 => tb { D with nx := N, ct := N, bk := D.nx } σ2 H2) := by
  refine ⟨fun i m σ H => m = xs.length - i ∧ i ≤ xs.length ∧ Pv i σ H, ⟨xs.length, by simp, Nat.zero_le _, h0⟩, ?_⟩
  rintro i m σ H ⟨rfl, hi, p⟩
  have q := hl i σ H hi p
  by_cases hlt : i < xs.length
  · refine .inr ⟨⟨xs, xs[i], q, by simp [hlt]⟩, Pv (i + 1), fun σ' H' p' => ⟨xs.length - (i + 1), by omega, rfl, hlt, p'⟩, fun x H' y => ?_⟩
    obtain ⟨e, y⟩ := y
    subst e
    exact hs i x σ _ (y xs q) p
  · have e : i = xs.length := by omega
    subst e
    exact .inl ⟨⟨xs, q, Nat.le_refl _⟩, hd σ H p⟩
theorem for_range {lo : Int} {n : Nat} {g : TG} {tb : TS} {D : Ends} {σ : St} {H : Hp} (Pv : Nat → St → Hp → Prop) (h0 : Pv 0 σ H)
    (hs : ∀ i σ H, i < n → Pv i σ H → g (.int (lo + i)) σ H fun σ2 H2 => tb { D with nx := Pv (i + 1), ct := Pv (i + 1), bk := D.nx } σ2 H2) (hd : ∀ σ H, Pv n σ H → D.nx σ H) :
    ∃ W : Nat → Nat → St → Hp → Prop, (∃ m, W 0 m σ H) ∧ ∀ i m σ H, W i m σ H →
      ((Itr lo n).stop i H ∧ D.nx σ H) ∨ ((Itr lo n).go i H ∧ ∃ N : St → Hp → Prop, (∀ σ' H', N σ' H' → ∃ m', m' < m ∧ W (i + 1) m' σ' H') ∧ ∀ x H', (Itr lo n).yld i H x H' → g x σ H' fun σ2 H2 => tb { D with nx := N, ct := N, bk := D.nx } σ2 H2) := by
  refine ⟨fun i m σ H => m = n - i ∧ i ≤ n ∧ Pv i σ H, ⟨n, by simp, Nat.zero_le _, h0⟩, ?_⟩
  rintro i m σ H ⟨rfl, hi, p⟩
  by_cases hlt : i < n
  · refine .inr ⟨hlt, Pv (i + 1), fun σ' H' p' => ⟨n - (i + 1), by omega, rfl, hlt, p'⟩, fun x H' y => ?_⟩
    obtain ⟨e, y⟩ := y
    subst e y
    exact hs i σ _ hlt p
  · have e : i = n := by omega
    subst e
    exact .inl ⟨Nat.le_refl _, hd σ H p⟩
/-- while, by a word and a measure of the state -/
theorem while_by {c : TT} {tb : TS} {D : Ends} {σ : St} {H : Hp} (Pv : St → Hp → Prop) (μ : St → Hp → Nat) (h0 : Pv σ H)
    (hs : ∀ σ H, Pv σ H → c σ H fun b H1 => if b = true then tb { D with nx := fun σ' H' => Pv σ' H' ∧ μ σ' H' < μ σ H, ct := fun σ' H' => Pv σ' H' ∧ μ σ' H' < μ σ H, bk := D.nx } σ H1 else D.nx σ H1)
    (mono : ∀ σ H Q Q', (∀ b H1, Q b H1 → Q' b H1) → c σ H Q → c σ H Q') : tWhile c tb D σ H := by
  refine ⟨fun m σ H => m = μ σ H ∧ Pv σ H, ⟨_, rfl, h0⟩, ?_⟩
  rintro m σ H ⟨rfl, p⟩
  refine mono σ H _ _ (fun b H1 q => ?_) (hs σ H p)
  cases b with
  | true => exact ⟨_, fun σ' H' ⟨p', l⟩ => ⟨_, l, rfl, p'⟩, q⟩
  | false => exact q
end L2

namespace L2
open PySem PySem.Spec PyProof.Rows

abbrev R2 := V → V → Hp → VK → Prop
/-- a two-place operation on values: f is binaryOp op, inplaceOp op or compareOp op -/
def OpR (X : Cx) (f : Value → Value → Sem Value) (r : R2) : Prop :=
  ∀ (pins : List (Addr × Obj)) (s : Shared) (σ : St) (H : Hp) (x y : V) (v u : Value) (Q : VK), Inv X pins σ H s → RelV x v → RelV y u → r x y H Q →
    wpAny (model X.prog X.w) X.A (f v u) (EP X pins σ Q) X.xe s
/-- a one-place operation -/
def UnR (X : Cx) (f : Value → Sem Value) (r : V → Hp → VK → Prop) : Prop :=
  ∀ (pins : List (Addr × Obj)) (s : Shared) (σ : St) (H : Hp) (x : V) (v : Value) (Q : VK), Inv X pins σ H s → RelV x v → r x H Q →
    wpAny (model X.prog X.w) X.A (f v) (EP X pins σ Q) X.xe s
/-- a call of a value that is known (a builtin, a type) with values -/
def CallR (X : Cx) (f : Value) (r : List V → Hp → VK → Prop) : Prop :=
  ∀ (pins : List (Addr × Obj)) (s : Shared) (σ : St) (H : Hp) (xs : List V) (us : List Value) (Q : VK), Inv X pins σ H s → Vals xs us → r xs H Q →
    wpAny (model X.prog X.w) X.A (call f us) (EP X pins σ Q) X.xe s
/-- a value's truth -/
def TruR (X : Cx) (r : V → Hp → (Bool → Hp → Prop) → Prop) : Prop :=
  ∀ (pins : List (Addr × Obj)) (s : Shared) (σ : St) (H : Hp) (x : V) (v : Value) (Q : Bool → Hp → Prop), Inv X pins σ H s → RelV x v → r x H Q →
    wpAny (model X.prog X.w) X.A (truthy v) (TP X pins σ Q) X.xe s

def tOp (r : R2) (ta tb : TE) : TE := fun σ H Q => ta σ H fun x H1 => tb σ H1 fun y H2 => r x y H2 Q
def tUn (r : V → Hp → VK → Prop) (ta : TE) : TE := fun σ H Q => ta σ H fun x H1 => r x H1 Q
/-- ints in, under C, and a value out -/
def rI (C : Int → Int → Prop) (g : Int → Int → V) : R2 := fun x y H Q => ∃ i j, x = .int i ∧ y = .int j ∧ C i j ∧ Q (g i j) H
def rI0 (g : Int → Int → V) : R2 := fun x y H Q => ∃ i j, x = .int i ∧ y = .int j ∧ Q (g i j) H
def rU (g : Int → V) : V → Hp → VK → Prop := fun x H Q => ∃ i, x = .int i ∧ Q (g i) H

section
variable {X : Cx} {a b c : Expr} {ta tb tc : TE} {pos : Pos}

theorem binT (ha : PE X a ta) (hb : PE X b tb) {pins : List (Addr × Obj)} {s : Shared} {σ : St} {H : Hp} {R : V → V → Hp → Prop} (I : Inv X pins σ H s)
    (h : ta σ H fun x H1 => tb σ H1 fun y H2 => R x y H2) {Q : Value → Shared → Prop} {f : Value → Value → Sem Value}
    (hf : ∀ v u s2 x y H2, Inv X pins σ H2 s2 → RelV x v → RelV y u → R x y H2 → wpAny (model X.prog X.w) X.A (f v u) Q X.xe s2) :
    wpAny (model X.prog X.w) X.A (eval a X.env) (fun v s₁ => wpAny (model X.prog X.w) X.A (eval b X.env) (fun u s₂ => wpAny (model X.prog X.w) X.A (f v u) Q X.xe s₂) X.xe s₁) X.xe s := by
  refine thn (ha pins s σ H _ I h) fun v s1 ⟨x, H1, I1, r1, q1⟩ => ?_
  refine thn (hb pins s1 σ H1 _ I1 q1) fun u s2 ⟨y, H2, I2, r2, q2⟩ => ?_
  exact hf v u s2 x y H2 I2 r1 r2 q2

theorem pe_op {op : Operator} {r : R2} (ho : OpR X (binaryOp op) r) (ha : PE X a ta) (hb : PE X b tb) : PE X (.BinOp a op b pos) (tOp r ta tb) := by
  intro pins s σ H Q I h
  exact wpAny_BinOp (binT ha hb I h fun v u s2 x y H2 I2 rx ry q => ho pins s2 σ H2 x y v u Q I2 rx ry q)
theorem pe_un {op : UnaryOp} {r : V → Hp → VK → Prop} (ho : UnR X (unaryOp op) r) (ha : PE X a ta) : PE X (.UnaryOp op a pos) (tUn r ta) := by
  intro pins s σ H Q I h
  exact UnaryOp_ (thn (ha pins s σ H _ I h) fun v s1 ⟨x, H1, I1, r1, q1⟩ => ho pins s1 σ H1 x v Q I1 r1 q1)
/-- a op= e at a name: the name's slot i -/
theorem augR {op : Operator} {r : R2} (ho : OpR X (inplaceOp op) r) {pins : List (Addr × Obj)} {s : Shared} {σ : St} {H : Hp} {x y : V} {v u : Value} {Q : VK} (I : Inv X pins σ H s)
    (rx : RelV x v) (ry : RelV y u) (q : r x y H Q) : wpAny (model X.prog X.w) X.A (inplaceOp op v u) (EP X pins σ Q) X.xe s := ho pins s σ H x y v u Q I rx ry q

/-! ### ints -/
theorem opI {f : Value → Value → Sem Value} {C : Int → Int → Prop} {g : Int → Int → Int}
    (rule : ∀ (i j : Int) (t u : Tok) (s : Shared) (Q : Value → Shared → Prop) (E : Value → Shared → Prop), C i j → Q (.int (g i j) s.toks) { s with toks := s.toks + 1 } → wpAny (model X.prog X.w) X.A (f (.int i t) (.int j u)) Q E s) :
    OpR X f (rI C fun i j => .int (g i j)) := by
  intro pins s σ H x y v u Q I rx ry h
  obtain ⟨i, j, rfl, rfl, hc, q⟩ := h
  obtain ⟨t, rfl⟩ := rx
  obtain ⟨t', rfl⟩ := ry
  exact rule i j t t' s _ _ hc ⟨.int (g i j), H, I.tok _, ⟨_, rfl⟩, q⟩
theorem opI0 {f : Value → Value → Sem Value} {g : Int → Int → Int}
    (rule : ∀ (i j : Int) (t u : Tok) (s : Shared) (Q : Value → Shared → Prop) (E : Value → Shared → Prop), Q (.int (g i j) s.toks) { s with toks := s.toks + 1 } → wpAny (model X.prog X.w) X.A (f (.int i t) (.int j u)) Q E s) :
    OpR X f (rI0 fun i j => .int (g i j)) := by
  intro pins s σ H x y v u Q I rx ry h
  obtain ⟨i, j, rfl, rfl, q⟩ := h
  obtain ⟨t, rfl⟩ := rx
  obtain ⟨t', rfl⟩ := ry
  exact rule i j t t' s _ _ ⟨.int (g i j), H, I.tok _, ⟨_, rfl⟩, q⟩
theorem opB0 {f : Value → Value → Sem Value} {g : Int → Int → Bool}
    (rule : ∀ (i j : Int) (t u : Tok) (s : Shared) (Q : Value → Shared → Prop) (E : Value → Shared → Prop), Q (.bool (g i j)) s → wpAny (model X.prog X.w) X.A (f (.int i t) (.int j u)) Q E s) :
    OpR X f (rI0 fun i j => .bl (g i j)) := by
  intro pins s σ H x y v u Q I rx ry h
  obtain ⟨i, j, rfl, rfl, q⟩ := h
  obtain ⟨t, rfl⟩ := rx
  obtain ⟨t', rfl⟩ := ry
  exact rule i j t t' s _ _ ⟨.bl (g i j), H, I, rfl, q⟩

def CDiv (i j : Int) : Prop := 0 < j ∧ j < 1073741824
def CDivN (i j : Int) : Prop := j ≠ 0 ∧ j.natAbs < 1073741824
def CPow (i j : Int) : Prop := 0 ≤ j ∧ j ≤ 1000000 ∧ i.natAbs < 2 ^ 64
def CMul (i j : Int) : Prop := (-(2 ^ 64) < i ∧ i < 2 ^ 64) ∨ (-(2 ^ 64) < j ∧ j < 2 ^ 64)
theorem CMul.ok {i j : Int} (h : CMul i j) : IntMulOk i j := by
  rcases h with ⟨h1, h2⟩ | ⟨h1, h2⟩
  · exact .of_left (intBits_le_64 h1 h2)
  · exact .of_right (intBits_le_64 h1 h2)
theorem two_pow_nn (k : Nat) : (0 : Int) ≤ 2 ^ k := by
  rw [two_pow_cast]
  exact Int.natCast_nonneg _

theorem op_add : OpR X (binaryOp .Add) (rI0 fun i j => .int (i + j)) := opI0 fun _ _ _ _ _ _ _ q => add_int q
theorem op_sub : OpR X (binaryOp .Sub) (rI0 fun i j => .int (i - j)) := opI0 fun _ _ _ _ _ _ _ q => sub_int q
theorem op_mul : OpR X (binaryOp .Mult) (rI CMul fun i j => .int (i * j)) := opI fun _ _ _ _ _ _ _ hc q => mul_int q hc.ok
/-- // by a positive divisor -/
theorem op_fdiv : OpR X (binaryOp .FloorDiv) (rI CDiv fun i j => .int (i / j)) := opI fun i j _ _ _ _ _ hc q => by
  have h1 : (0 : Int) < j := hc.1
  have h2 : j < 1073741824 := hc.2
  exact floordiv_int (by omega) (by rw [Int.fdiv_eq_ediv_of_nonneg i (by omega)]; exact q) (.inl (PyProof.noPylong_small (by omega)))
theorem op_fdivN : OpR X (binaryOp .FloorDiv) (rI CDivN fun i j => .int (i.fdiv j)) := opI fun _ _ _ _ _ _ _ hc q => floordiv_int hc.1 q (.inl (PyProof.noPylong_small hc.2))
/-- % by a positive divisor of any size -/
theorem op_mod : OpR X (binaryOp .Mod) (rI (fun _ j => 0 < j) fun i j => .int (i % j)) := opI fun i j _ _ _ _ _ hc q => by
  have h1 : (0 : Int) < j := hc
  exact mod_int' (by omega) (by rw [Int.fmod_eq_emod_of_nonneg i (by omega)]; exact q)
theorem op_modN : OpR X (binaryOp .Mod) (rI (fun _ j => j ≠ 0) fun i j => .int (i.fmod j)) := opI fun _ _ _ _ _ _ _ hc q => mod_int' hc q
theorem op_pow : OpR X (binaryOp .Pow) (rI CPow fun i j => .int (i ^ j.toNat)) := opI fun _ _ _ _ _ _ _ hc q => pow_int_small hc.1 hc.2.1 hc.2.2 q
theorem op_shl : OpR X (binaryOp .LShift) (rI CPow fun i j => .int (i * 2 ^ j.toNat)) := opI fun _ _ _ _ _ _ _ hc q => lshift_int_small hc.1 hc.2.1 hc.2.2 q
theorem op_shr : OpR X (binaryOp .RShift) (rI (fun _ j => 0 ≤ j) fun i j => .int (i / 2 ^ j.toNat)) := opI fun i j _ _ _ _ _ hc q =>
  rshift_int hc (by rw [Int.fdiv_eq_ediv_of_nonneg i (two_pow_nn _)]; exact q)
theorem op_and : OpR X (binaryOp .BitAnd) (rI0 fun i j => .int (Builtin.bitAnd i j)) := opI0 fun _ _ _ _ _ _ _ q => and_int q
theorem op_or : OpR X (binaryOp .BitOr) (rI0 fun i j => .int (Builtin.bitOr i j)) := opI0 fun _ _ _ _ _ _ _ q => or_int q
theorem op_xor : OpR X (binaryOp .BitXor) (rI0 fun i j => .int (Builtin.bitXor i j)) := opI0 fun _ _ _ _ _ _ _ q => xor_int q

theorem iop_add : OpR X (inplaceOp .Add) (rI0 fun i j => .int (i + j)) := opI0 fun _ _ _ _ _ _ _ q => iadd_int q
theorem iop_sub : OpR X (inplaceOp .Sub) (rI0 fun i j => .int (i - j)) := opI0 fun _ _ _ _ _ _ _ q => isub_int q
theorem iop_mul : OpR X (inplaceOp .Mult) (rI CMul fun i j => .int (i * j)) := opI fun _ _ _ _ _ _ _ hc q => imul_int q hc.ok
theorem iop_fdiv : OpR X (inplaceOp .FloorDiv) (rI CDiv fun i j => .int (i / j)) := opI fun i j _ _ _ _ _ hc q => by
  have h1 : (0 : Int) < j := hc.1
  have h2 : j < 1073741824 := hc.2
  exact ifloordiv_int (by omega) (by rw [Int.fdiv_eq_ediv_of_nonneg i (by omega)]; exact q) (.inl (PyProof.noPylong_small (by omega)))
theorem iop_mod : OpR X (inplaceOp .Mod) (rI (fun _ j => 0 < j) fun i j => .int (i % j)) := opI fun i j _ _ _ _ _ hc q => by
  have h1 : (0 : Int) < j := hc
  exact imod_int (by omega) (by rw [Int.fmod_eq_emod_of_nonneg i (by omega)]; exact q)
theorem iop_shl : OpR X (inplaceOp .LShift) (rI CPow fun i j => .int (i * 2 ^ j.toNat)) := opI fun _ _ _ _ _ _ _ hc q => ilshift_int_small hc.1 hc.2.1 hc.2.2 q
theorem iop_shr : OpR X (inplaceOp .RShift) (rI (fun _ j => 0 ≤ j) fun i j => .int (i / 2 ^ j.toNat)) := opI fun i j _ _ _ _ _ hc q =>
  irshift_int hc (by rw [Int.fdiv_eq_ediv_of_nonneg i (two_pow_nn _)]; exact q)
theorem iop_and : OpR X (inplaceOp .BitAnd) (rI0 fun i j => .int (Builtin.bitAnd i j)) := opI0 fun _ _ _ _ _ _ _ q => iand_int q
theorem iop_or : OpR X (inplaceOp .BitOr) (rI0 fun i j => .int (Builtin.bitOr i j)) := opI0 fun _ _ _ _ _ _ _ q => ior_int q
theorem iop_xor : OpR X (inplaceOp .BitXor) (rI0 fun i j => .int (Builtin.bitXor i j)) := opI0 fun _ _ _ _ _ _ _ q => ixor_int q

theorem unI {f : Value → Sem Value} {g : Int → Int}
    (rule : ∀ (i : Int) (t : Tok) (s : Shared) (Q : Value → Shared → Prop) (E : Value → Shared → Prop), Q (.int (g i) s.toks) { s with toks := s.toks + 1 } → wpAny (model X.prog X.w) X.A (f (.int i t)) Q E s) :
    UnR X f (rU fun i => .int (g i)) := by
  intro pins s σ H x v Q I rx h
  obtain ⟨i, rfl, q⟩ := h
  obtain ⟨t, rfl⟩ := rx
  exact rule i t s _ _ ⟨.int (g i), H, I.tok _, ⟨_, rfl⟩, q⟩
theorem un_neg : UnR X (unaryOp .USub) (rU fun i => .int (-i)) := unI fun _ _ _ _ _ q => neg_int q
theorem un_inv : UnR X (unaryOp .Invert) (rU fun i => .int (Builtin.bitNot i)) := unI fun _ _ _ _ _ q => invert_int q

/-! ### bools among ints: n += (a < b) -/
theorem op_add_ib : OpR X (binaryOp .Add) (fun x y H Q => ∃ i k, x = .int i ∧ y = .bl k ∧ Q (.int (i + b2i k)) H) := by
  intro pins s σ H x y v u Q I rx ry h
  obtain ⟨i, k, rfl, rfl, q⟩ := h
  obtain ⟨t, rfl⟩ := rx
  cases ry
  exact add_int_bool ⟨.int (i + b2i k), H, I.tok _, ⟨_, rfl⟩, q⟩
end

/-! ### comparisons -/
/-- the scalars that == tells apart as data does -/
def scal : V → V → Bool
  | .non, .non => true | .non, .int _ => true | .int _, .non => true | .non, .bl _ => true | .bl _, .non => true | .non, .str _ => true | .str _, .non => true
  | .int _, .int _ => true | .bl _, .bl _ => true | .str _, .str _ => true | .byt _, .byt _ => true
  | .int _, .str _ => true | .str _, .int _ => true | .bl _, .str _ => true | .str _, .bl _ => true
  | _, _ => false
def rEq : R2 := fun x y H Q => scal x y = true ∧ Q (.bl (decide (x = y))) H
def rNe : R2 := fun x y H Q => scal x y = true ∧ Q (.bl (!decide (x = y))) H

theorem dec_int {i j : Int} : decide (V.int i = V.int j) = (i == j) := by
  rw [Bool.eq_iff_iff]
  simp
theorem dec_bl {i j : Bool} : decide (V.bl i = V.bl j) = (i == j) := by
  rw [Bool.eq_iff_iff]
  simp
theorem dec_str {i j : Str} : decide (V.str i = V.str j) = (i == j) := by
  rw [Bool.eq_iff_iff]
  simp
theorem dec_byt {i j : Array UInt8} : decide (V.byt i = V.byt j) = (i.toList == j.toList) := by
  rw [Bool.eq_iff_iff]
  cases i
  cases j
  simp

section
variable {X : Cx} {a b c : Expr} {ta tb tc : TE} {pos : Pos}
theorem fin_bl {pins : List (Addr × Obj)} {σ : St} {H : Hp} {s : Shared} {Q : VK} {k k' : Bool} (I : Inv X pins σ H s) (q : Q (.bl k) H) (e : k = k') : EP X pins σ Q (.bool k') s := by
  subst e
  exact ⟨.bl k, H, I, rfl, q⟩
theorem op_eq : OpR X (compareOp .Eq) rEq := by
  intro pins s σ H x y v u Q I rx ry h
  obtain ⟨hs, q⟩ := h
  cases x with
  | non =>
    cases rx
    cases y with
    | non => cases ry; exact PySem.EqNone.eq_none_none (fin_bl I q (by simp))
    | bl j => cases ry; exact PySem.EqNone.eq_none_bool (fin_bl I q (by simp))
    | int j => obtain ⟨t', rfl⟩ := ry; exact PySem.EqNone.eq_none_int (fin_bl I q (by simp))
    | str j => obtain ⟨t', rfl⟩ := ry; exact PySem.EqNone.eq_none_str (fin_bl I q (by simp))
    | _ => exact absurd (show false = true from hs) Bool.false_ne_true
  | bl i =>
    cases rx
    cases y with
    | non => cases ry; exact PySem.EqNone.eq_bool_none (fin_bl I q (by simp))
    | bl j => cases ry; exact eq_bool (fin_bl I q dec_bl)
    | str j => obtain ⟨t', rfl⟩ := ry; exact PySem.EqMixed.eq_bool_str (fin_bl I q (by simp))
    | _ => exact absurd (show false = true from hs) Bool.false_ne_true
  | int i =>
    obtain ⟨t, rfl⟩ := rx
    cases y with
    | non => cases ry; exact PySem.EqNone.eq_int_none (fin_bl I q (by simp))
    | int j => obtain ⟨t', rfl⟩ := ry; exact eq_int (fin_bl I q dec_int)
    | str j => obtain ⟨t', rfl⟩ := ry; exact PySem.EqMixed.eq_int_str (fin_bl I q (by simp))
    | _ => exact absurd (show false = true from hs) Bool.false_ne_true
  | str i =>
    obtain ⟨t, rfl⟩ := rx
    cases y with
    | non => cases ry; exact PySem.EqNone.eq_str_none (fin_bl I q (by simp))
    | bl j => cases ry; exact PySem.EqMixed.eq_str_bool (fin_bl I q (by simp))
    | int j => obtain ⟨t', rfl⟩ := ry; exact PySem.EqMixed.eq_str_int (fin_bl I q (by simp))
    | str j => obtain ⟨t', rfl⟩ := ry; exact eq_str (fin_bl I q dec_str)
    | _ => exact absurd (show false = true from hs) Bool.false_ne_true
  | byt i =>
    obtain ⟨t, rfl⟩ := rx
    cases y with
    | byt j => obtain ⟨t', rfl⟩ := ry; exact PySem.W.eq_bytes (fin_bl I q dec_byt)
    | _ => exact absurd (show false = true from hs) Bool.false_ne_true
  | _ => cases y <;> exact absurd (show false = true from hs) Bool.false_ne_true
theorem op_ne : OpR X (compareOp .NotEq) rNe := by
  intro pins s σ H x y v u Q I rx ry h
  obtain ⟨hs, q⟩ := h
  cases x with
  | non =>
    cases rx
    cases y with
    | non => cases ry; exact PySem.EqNone.ne_none_none (fin_bl I q (by simp))
    | bl j => cases ry; exact PySem.EqNone.ne_none_bool (fin_bl I q (by simp))
    | int j => obtain ⟨t', rfl⟩ := ry; exact PySem.EqNone.ne_none_int (fin_bl I q (by simp))
    | str j => obtain ⟨t', rfl⟩ := ry; exact PySem.EqNone.ne_none_str (fin_bl I q (by simp))
    | _ => exact absurd (show false = true from hs) Bool.false_ne_true
  | bl i =>
    cases rx
    cases y with
    | non => cases ry; exact PySem.EqNone.ne_bool_none (fin_bl I q (by simp))
    | bl j => cases ry; exact ne_bool (fin_bl I q (congrArg not dec_bl))
    | str j => obtain ⟨t', rfl⟩ := ry; exact PySem.EqMixed.ne_bool_str (fin_bl I q (by simp))
    | _ => exact absurd (show false = true from hs) Bool.false_ne_true
  | int i =>
    obtain ⟨t, rfl⟩ := rx
    cases y with
    | non => cases ry; exact PySem.EqNone.ne_int_none (fin_bl I q (by simp))
    | int j => obtain ⟨t', rfl⟩ := ry; exact ne_int (fin_bl I q (congrArg not dec_int))
    | str j => obtain ⟨t', rfl⟩ := ry; exact PySem.EqMixed.ne_int_str (fin_bl I q (by simp))
    | _ => exact absurd (show false = true from hs) Bool.false_ne_true
  | str i =>
    obtain ⟨t, rfl⟩ := rx
    cases y with
    | non => cases ry; exact PySem.EqNone.ne_str_none (fin_bl I q (by simp))
    | bl j => cases ry; exact PySem.EqMixed.ne_str_bool (fin_bl I q (by simp))
    | int j => obtain ⟨t', rfl⟩ := ry; exact PySem.EqMixed.ne_str_int (fin_bl I q (by simp))
    | str j => obtain ⟨t', rfl⟩ := ry; exact ne_str (fin_bl I q (congrArg not dec_str))
    | _ => exact absurd (show false = true from hs) Bool.false_ne_true
  | byt i =>
    obtain ⟨t, rfl⟩ := rx
    cases y with
    | byt j => obtain ⟨t', rfl⟩ := ry; exact PySem.W.ne_bytes (fin_bl I q (congrArg not dec_byt))
    | _ => exact absurd (show false = true from hs) Bool.false_ne_true
  | _ => cases y <;> exact absurd (show false = true from hs) Bool.false_ne_true

theorem op_lt : OpR X (compareOp .Lt) (rI0 fun i j => .bl (decide (i < j))) := opB0 fun _ _ _ _ _ _ _ q => lt_int q
theorem op_le : OpR X (compareOp .LtE) (rI0 fun i j => .bl (decide (i ≤ j))) := opB0 fun _ _ _ _ _ _ _ q => le_int q
theorem op_gt : OpR X (compareOp .Gt) (rI0 fun i j => .bl (decide (j < i))) := opB0 fun _ _ _ _ _ _ _ q => gt_int q
theorem op_ge : OpR X (compareOp .GtE) (rI0 fun i j => .bl (decide (j ≤ i))) := opB0 fun _ _ _ _ _ _ _ q => ge_int q
theorem op_lt_str : OpR X (compareOp .Lt) (fun x y H Q => ∃ i j, x = .str i ∧ y = .str j ∧ Q (.bl (decide (i.cps.toList < j.cps.toList))) H) := by
  intro pins s σ H x y v u Q I rx ry h
  obtain ⟨i, j, rfl, rfl, q⟩ := h
  obtain ⟨t, rfl⟩ := rx
  obtain ⟨t', rfl⟩ := ry
  exact lt_str (fin_bl I q rfl)
/-- the one string within the other -/
theorem op_in_str : OpR X (compareOp .In) (fun x y H Q => ∃ i j, x = .str i ∧ y = .str j ∧ Q (.bl (!(Builtin.Str.occurrences j i 0 j.length 1).isEmpty)) H) := by
  intro pins s σ H x y v u Q I rx ry h
  obtain ⟨i, j, rfl, rfl, q⟩ := h
  obtain ⟨t, rfl⟩ := rx
  obtain ⟨t', rfl⟩ := ry
  exact in_str (fin_bl I q rfl)

/-- is None, is not None: the right side a value none -/
theorem op_isN : OpR X (compareOp .Is) (fun x y H Q => y = .non ∧ Q (.bl (decide (x = .non))) H) := by
  intro pins s σ H x y v u Q I rx ry h
  obtain ⟨rfl, q⟩ := h
  cases ry
  refine is_none_gen (fin_bl I q ?_)
  cases x <;> first
    | (cases rx; rfl)
    | (obtain ⟨t, rfl⟩ := rx; rfl)
theorem op_notN : OpR X (compareOp .IsNot) (fun x y H Q => y = .non ∧ Q (.bl (!decide (x = .non))) H) := by
  intro pins s σ H x y v u Q I rx ry h
  obtain ⟨rfl, q⟩ := h
  cases ry
  refine isnot_none_gen (fin_bl I q ?_)
  cases x <;> first
    | (cases rx; rfl)
    | (obtain ⟨t, rfl⟩ := rx; rfl)

theorem op_notin_str : OpR X (compareOp .NotIn) (fun x y H Q => ∃ i j, x = .str i ∧ y = .str j ∧ Q (.bl (!(!(Builtin.Str.occurrences j i 0 j.length 1).isEmpty))) H) := by
  intro pins s σ H x y v u Q I rx ry h
  obtain ⟨i, j, rfl, rfl, q⟩ := h
  obtain ⟨t, rfl⟩ := rx
  obtain ⟨t', rfl⟩ := ry
  exact notIn_str (fin_bl I q rfl)
/-- is, is not of two objects that are tracked lists or instances -/
def isObj : HO → Bool
  | .lst _ => true
  | .ins _ _ _ => true
  | _ => false
theorem obj_there {pins : List (Addr × Obj)} {s : Shared} {σ : St} {H : Hp} {a : Addr} {o : HO} (I : Inv X pins σ H s) (h : H a = some o) (p : isObj o = true) : ∃ ob, s.heap.get? a = some ob ∧ ob.cls ≠ .type "tuple" := by
  cases o with
  | lst xs =>
    obtain ⟨_, its, n, _, e⟩ : xs.length ≤ sizeLine ∧ ∃ (its : List Value) (n : Nat), Vals xs its ∧ s.heap.get? a = some { cls := .type "list", data := .seq its.toArray n } := I.hok a _ h
    exact ⟨_, e, (by show Value.type "list" ≠ .type "tuple"; decide +kernel)⟩
  | ins C dx fs =>
    have x := I.hok a _ h
    obtain ⟨_, _, _, e, _⟩ := x
    exact ⟨_, e, (by show Value.ref C ≠ .type "tuple"; exact fun z => by cases z)⟩
  | _ => exact absurd (show false = true from p) Bool.false_ne_true
theorem op_is_ref : OpR X (compareOp .Is) (fun x y H Q => ∃ a b oa ob, x = .ref a ∧ y = .ref b ∧ H a = some oa ∧ isObj oa = true ∧ H b = some ob ∧ isObj ob = true ∧ Q (.bl (decide (a = b))) H) := by
  intro pins s σ H x y v u Q I rx ry h
  obtain ⟨a, b, oa, ob, rfl, rfl, ha, pa, hb, pb, q⟩ := h
  cases rx
  cases ry
  obtain ⟨o1, e1, n1⟩ := obj_there I ha pa
  obtain ⟨o2, e2, _⟩ := obj_there I hb pb
  by_cases z : a = b
  · subst z
    exact wpAny_is_ref_self (fin_bl I q (by simp))
  · exact wpAny_is_ref_other z e1 e2 n1 (fin_bl I q (by simp [z]))
theorem op_isnot_ref : OpR X (compareOp .IsNot) (fun x y H Q => ∃ a b oa ob, x = .ref a ∧ y = .ref b ∧ H a = some oa ∧ isObj oa = true ∧ H b = some ob ∧ isObj ob = true ∧ Q (.bl (!decide (a = b))) H) := by
  intro pins s σ H x y v u Q I rx ry h
  obtain ⟨a, b, oa, ob, rfl, rfl, ha, pa, hb, pb, q⟩ := h
  cases rx
  cases ry
  obtain ⟨o1, e1, n1⟩ := obj_there I ha pa
  obtain ⟨o2, e2, _⟩ := obj_there I hb pb
  by_cases z : a = b
  · subst z
    exact wpAny_isNot_ref_self (fin_bl I q (by simp))
  · exact wpAny_isNot_ref_other z e1 e2 n1 (fin_bl I q (by simp [z]))

/-- two rules for one operation: by cases -/
theorem OpR.or {f : Value → Value → Sem Value} {r r' : R2} (h : OpR X f r) (h' : OpR X f r') : OpR X f (fun x y H Q => r x y H Q ∨ r' x y H Q) := by
  intro pins s σ H x y v u Q I rx ry q
  rcases q with q | q
  · exact h pins s σ H x y v u Q I rx ry q
  · exact h' pins s σ H x y v u Q I rx ry q

theorem nomark (b : Expr) {op : CmpOp} (h : op ≠ .In := by decide) (h2 : op ≠ .NotIn := by decide) : behindInMarks op b = false := by
  have e1 : (op == CmpOp.In) = false := by cases op <;> first | rfl | exact absurd rfl h
  have e2 : (op == CmpOp.NotIn) = false := by cases op <;> first | rfl | exact absurd rfl h2
  cases b <;> simp [behindInMarks, e1, e2]
/-- a comparison as a value; hm: nomark b, or (for in, not in) by with_unfolding_all rfl -/
theorem pe_cmpR {op : CmpOp} {r : R2} (ho : OpR X (compareOp op) r) (ha : PE X a ta) (hb : PE X b tb) (hm : behindInMarks op b = false) : PE X (.Compare a [op] [b] pos) (tOp r ta tb) := by
  intro pins s σ H Q I h
  exact wpAny_Compare1 (binT ha hb I h fun v u s2 x y H2 I2 rx ry q => ho pins s2 σ H2 x y v u Q I2 rx ry q) hm
/-- a reading of a value as a test -/
def tTest (t : TE) : TT := fun σ H Q => t σ H fun x H' => ∃ k, x = .bl k ∧ Q k H'
theorem pt_cmpR {op : CmpOp} {r : R2} (ho : OpR X (compareOp op) r) (ha : PE X a ta) (hb : PE X b tb) (hm : behindInMarks op b = false) : PT X (.Compare a [op] [b] pos) (tTest (tOp r ta tb)) := by
  intro pins s σ H Q I h
  refine wpAny_isTrue_Compare1 (thn (ha pins s σ H _ I h) fun v s1 ⟨x, H1, I1, r1, q1⟩ => thn (hb pins s1 σ H1 _ I1 q1) fun u s2 ⟨y, H2, I2, r2, q2⟩ =>
    thn (ho pins s2 σ H2 x y v u _ I2 r1 r2 q2) fun c s3 ⟨z, H3, I3, r3, k, e, q3⟩ => ?_) hm
  subst e
  cases r3
  exact wpAny_truthy_bool ⟨H3, I3, q3⟩
/-- a op1 b op2 c -/
def tChain (r r' : R2) (ta tb tc : TE) : TE := fun σ H Q => ta σ H fun x H1 => tb σ H1 fun y H2 => r x y H2 fun z H3 => ∃ k, z = .bl k ∧
  (if k = true then tc σ H3 fun w' H4 => r' y w' H4 Q else Q (.bl false) H3)
theorem pe_chain {op op' : CmpOp} {r r' : R2} (ho : OpR X (compareOp op) r) (ho' : OpR X (compareOp op') r') (ha : PE X a ta) (hb : PE X b tb) (hc : PE X c tc)
    (hm : lastMarks [op, op'] [b, c] = false := by with_unfolding_all rfl) : PE X (.Compare a [op, op'] [b, c] pos) (tChain r r' ta tb tc) := by
  intro pins s σ H Q I h
  refine Compare_chain (thn (ha pins s σ H _ I h) fun v s1 ⟨x, H1, I1, r1, q1⟩ => chain_link (thn (hb pins s1 σ H1 _ I1 q1) fun u s2 ⟨y, H2, I2, r2, q2⟩ =>
    thn (ho pins s2 σ H2 x y v u _ I2 r1 r2 q2) fun d s3 ⟨z, H3, I3, r3, k, e, q3⟩ => ?_)) hm
  subst e
  cases r3
  refine wpAny_truthy_bool ?_
  cases k with
  | false => exact ite_ff ⟨.bl false, H3, I3, rfl, q3⟩
  | true => exact ite_tt (chain_last (thn (hc pins s3 σ H3 _ I3 q3) fun w' s4 ⟨z', H4, I4, r4, q4⟩ => ho' pins s4 σ H4 y z' u w' Q I4 r2 r4 q4))
theorem pt_chain {op op' : CmpOp} {r r' : R2} (ho : OpR X (compareOp op) r) (ho' : OpR X (compareOp op') r') (ha : PE X a ta) (hb : PE X b tb) (hc : PE X c tc)
    (hm : lastMarks [op, op'] [b, c] = false := by with_unfolding_all rfl) : PT X (.Compare a [op, op'] [b, c] pos) (tTest (tChain r r' ta tb tc)) := by
  intro pins s σ H Q I h
  refine isTrue_chain (thn (ha pins s σ H _ I h) fun v s1 ⟨x, H1, I1, r1, q1⟩ => test_link (thn (hb pins s1 σ H1 _ I1 q1) fun u s2 ⟨y, H2, I2, r2, q2⟩ =>
    thn (ho pins s2 σ H2 x y v u _ I2 r1 r2 q2) fun d s3 ⟨z, H3, I3, r3, k, e, q3⟩ => ?_)) hm
  subst e
  cases r3
  refine wpAny_truthy_bool ?_
  cases k with
  | false =>
    obtain ⟨k', e', q'⟩ := q3
    cases e'
    exact ite_ff ⟨H3, I3, q'⟩
  | true =>
    refine ite_tt (test_last (thn (hc pins s3 σ H3 _ I3 q3) fun w' s4 ⟨z', H4, I4, r4, q4⟩ => thn (ho' pins s4 σ H4 y z' u w' _ I4 r2 r4 q4) fun d' s5 ⟨z2, H5, I5, r5, k2, e2, q5⟩ => ?_))
    subst e2
    cases r5
    exact wpAny_truthy_bool ⟨H5, I5, q5⟩

/-! ### truth -/
/-- a value's truth by the abstract heap -/
def TruV (K : PySem.W.Frag) (x : V) (H : Hp) (k : Bool) : Prop :=
  match x with
  | .non => k = false
  | .bl b => k = b
  | .int i => k = (i != 0)
  | .str y => y.length ≤ sizeLine ∧ k = ((y.length : Int) != 0)
  | .byt y => y.size ≤ sizeLine ∧ k = ((y.size : Int) != 0)
  | .ref p => (∃ xs, SqL K H p xs ∧ k = !xs.isEmpty) ∨ (∃ xs, SqT K H p xs ∧ k = !xs.isEmpty) ∨ ∃ kvs, H p = some (.dK kvs) ∧ k = !kvs.isEmpty
  | _ => False
theorem isEmpty_kv {κ : Type} {kvs : List (κ × V)} {vs : List (κ × Value)} (r : KV kvs vs) : (!vs.isEmpty) = !kvs.isEmpty := by
  cases r <;> rfl
theorem isEmpty_of {xs : List V} {its : List Value} (r : Vals xs its) : (!its.toArray.isEmpty) = !xs.isEmpty := by
  cases r <;> simp
theorem line63 : (sizeLine : Nat) < 2 ^ 63 := by rw [sizeLine_eq]; decide
theorem tru_ok : TruR X (fun x H Q => ∃ k, TruV X.K x H k ∧ Q k H) := by
  intro pins s σ H x v Q I rx h
  obtain ⟨k, e, q⟩ := h
  have hl := line63
  have hs : sizeLine = 16777216 := sizeLine_eq
  cases x with
  | non =>
    cases rx
    have e' : k = false := e
    subst e'
    exact truthy_none ⟨H, I, q⟩
  | bl b =>
    cases rx
    have e' : k = b := e
    subst e'
    exact wpAny_truthy_bool ⟨H, I, q⟩
  | int i =>
    obtain ⟨t, rfl⟩ := rx
    have e' : k = (i != 0) := e
    subst e'
    exact PySem.P.truthy_int ⟨H, I, q⟩
  | str y =>
    obtain ⟨t, rfl⟩ := rx
    obtain ⟨hy, e'⟩ : y.length ≤ sizeLine ∧ k = ((y.length : Int) != 0) := e
    subst e'
    exact PySem.P.truthy_str (by omega) ⟨H, I.tok _, q⟩
  | byt y =>
    obtain ⟨t, rfl⟩ := rx
    obtain ⟨hy, e'⟩ : y.size ≤ sizeLine ∧ k = ((y.size : Int) != 0) := e
    subst e'
    exact PySem.W.truthy_bytes (by omega) ⟨H, I.tok _, q⟩
  | ref p =>
    cases rx
    have e' : (∃ xs, SqL X.K H p xs ∧ k = !xs.isEmpty) ∨ (∃ xs, SqT X.K H p xs ∧ k = !xs.isEmpty) ∨ ∃ kvs, H p = some (.dK kvs) ∧ k = !kvs.isEmpty := e
    rcases e' with ⟨xs, hx, e'⟩ | ⟨xs, hx, e'⟩ | ⟨kvs, hx, e'⟩
    · subst e'
      obtain ⟨its, r, pl, hz⟩ := I.list hx
      have hlen := r.length
      exact wpAny_truthy_list pl.isList (by simp only [List.size_toArray]; omega) ⟨H, I.tok _, by rw [isEmpty_of r]; exact q⟩
    · subst e'
      obtain ⟨its, r, pl, hz⟩ := I.tuple hx
      have hlen := r.length
      exact truthy_tuple pl (by simp only [List.size_toArray]; omega) ⟨H, I.tok _, by rw [isEmpty_of r]; exact q⟩
    · subst e'
      obtain ⟨hz, hS, vs, r, m⟩ : kvs.length ≤ sizeLine ∧ (p == sysModules) = false ∧ ∃ vs, KV kvs vs ∧ s.heap.DictOf (mixKind X.prog X.w) p vs := I.hok p _ hx
      have hlen : kvs.length = vs.length := Paired.length r
      exact wpAny_truthy_dict hS m (by omega) ⟨H, I.tok _, by rw [isEmpty_kv r]; exact q⟩
  | _ => exact (show False from e).elim
/-- any expression whose test is its value's truth (a name, a call, a subscript, a field ..: he by fun _ => rfl) -/
theorem pt_truth (ha : PE X a ta) (he : ∀ whole, isTrue a X.env whole = (do let v ← whole; standAt a.pos; holding [v] (truthy v))) :
    PT X a (fun σ H Q => ta σ H fun x H' => ∃ k, TruV X.K x H' k ∧ Q k H') := by
  intro pins s σ H Q I h
  exact isTrue_plain (thn (ha pins s σ H _ I h) fun v s1 ⟨x, H1, I1, r1, q1⟩ => tru_ok pins s1 σ H1 x v Q I1 r1 q1) (he _)

/-! ### strs and bytes -/
theorem pe_byt {x : List UInt8} {k : Nat} : PE X (.Constant (.bytes x) k pos) (fun _ H Q => Q (.byt x.toArray) H) := fun _ _ _ H _ I h => PySem.W.Constant_bytes ⟨.byt x.toArray, H, I.tok _, ⟨_, rfl⟩, h⟩
theorem op_add_str : OpR X (binaryOp .Add) (fun x y H Q => ∃ i j, x = .str i ∧ y = .str j ∧ i.length + j.length ≤ sizeLine ∧ Q (.str (i ++ j)) H) := by
  intro pins s σ H x y v u Q I rx ry h
  obtain ⟨i, j, rfl, rfl, hz, q⟩ := h
  obtain ⟨t, rfl⟩ := rx
  obtain ⟨t', rfl⟩ := ry
  exact add_str (fun t' tk => ⟨.str (i ++ j), H, I.tok _, ⟨_, rfl⟩, q⟩) hz
theorem iop_add_str : OpR X (inplaceOp .Add) (fun x y H Q => ∃ i j, x = .str i ∧ y = .str j ∧ i.length + j.length ≤ sizeLine ∧ Q (.str (i ++ j)) H) := by
  intro pins s σ H x y v u Q I rx ry h
  obtain ⟨i, j, rfl, rfl, hz, q⟩ := h
  obtain ⟨t, rfl⟩ := rx
  obtain ⟨t', rfl⟩ := ry
  exact iadd_str (fun t' tk => ⟨.str (i ++ j), H, I.tok _, ⟨_, rfl⟩, q⟩) hz
theorem op_add_byt : OpR X (binaryOp .Add) (fun x y H Q => ∃ i j, x = .byt i ∧ y = .byt j ∧ i.size + j.size ≤ 16777216 ∧ Q (.byt (i ++ j)) H) := by
  intro pins s σ H x y v u Q I rx ry h
  obtain ⟨i, j, rfl, rfl, hz, q⟩ := h
  obtain ⟨t, rfl⟩ := rx
  obtain ⟨t', rfl⟩ := ry
  exact PySem.W.KBy.add_bytes hz (fun t' tk => ⟨.byt (i ++ j), H, I.tok _, ⟨_, rfl⟩, q⟩)

def PlainIxT (b : Expr) : Prop := ∀ o i, subscripted b false o i = operate [o, i] (getItem o i)
/-- s[i], 0 ≤ i < len -/
theorem pe_item_str (ha : PE X a ta) (hb : PE X b tb) (hs : PlainIxT b) :
    PE X (.Subscript a b pos) (tOp (fun x y H Q => ∃ z i c, x = .str z ∧ y = .int i ∧ 0 ≤ i ∧ i < 2 ^ 63 ∧ i < z.length ∧ z.cps[i.toNat]? = some c ∧ Q (.str ⟨#[c]⟩) H) ta tb) := by
  intro pins s σ H Q I h
  refine Subscript_ (binT ha hb I h fun v u s2 x y H2 I2 rx ry q => ?_)
  obtain ⟨z, i, c, rfl, rfl, h0, h63, h1, hc, q⟩ := q
  obtain ⟨t, rfl⟩ := rx
  obtain ⟨t', rfl⟩ := ry
  have e : seqIndex? i z.length = some i.toNat := PySem.StrLaws.seqIndex_nonneg h0 h1
  exact tail_any (typeIs_str s2 z t) slot_str_getitem.lookup (getItem_str (c := c) (by
    have e1 : decide (i < -(2 ^ 63 : Int)) = false := decide_eq_false (by omega)
    have e2 : decide (i ≥ 2 ^ 63) = false := decide_eq_false (by omega)
    rw [e1, e2] <;> rfl) (by rw [e]; exact hc) ⟨.str ⟨#[c]⟩, H2, I2.tok _, ⟨_, rfl⟩, q⟩) (hs _ _)
/-- b[i], 0 ≤ i < len -/
theorem pe_item_byt (ha : PE X a ta) (hb : PE X b tb) (hs : PlainIxT b) :
    PE X (.Subscript a b pos) (tOp (fun x y H Q => ∃ (z : List UInt8) (i : Int), x = .byt z.toArray ∧ y = .int i ∧ z.length ≤ sizeLine ∧ 0 ≤ i ∧ i < z.length ∧ Q (.int ((z.getD i.toNat 0).toNat : Nat)) H) ta tb) := by
  intro pins s σ H Q I h
  refine Subscript_ (binT ha hb I h fun v u s2 x y H2 I2 rx ry q => ?_)
  obtain ⟨z, i, rfl, rfl, hz, h0, h1, q⟩ := q
  obtain ⟨t, rfl⟩ := rx
  obtain ⟨t', rfl⟩ := ry
  have hl : sizeLine = 16777216 := sizeLine_eq
  exact tail_any (PySem.W.typeIs_bytes s2 z.toArray t) PySem.W.FB.slot_bytes_getitem.lookup (PySem.W.getItem_bytes (by omega) h0 h1 ⟨.int ((z.getD i.toNat 0).toNat : Nat), H2, I2.tok _, ⟨_, rfl⟩, q⟩) (hs _ _)

/-! ### scalar builtins, by CallR -/
theorem vals1 {x : V} {us : List Value} (r : Vals [x] us) : ∃ u, us = [u] ∧ RelV x u := by
  cases r with
  | cons r1 r2 => cases r2; exact ⟨_, rfl, r1⟩
theorem vals2 {x y : V} {us : List Value} (r : Vals [x, y] us) : ∃ u w', us = [u, w'] ∧ RelV x u ∧ RelV y w' := by
  cases r with
  | cons r1 r2 =>
    cases r2 with
    | cons r3 r4 => cases r4; exact ⟨_, _, rfl, r1, r3⟩
theorem call_abs : CallR X (.builtin "abs") (fun xs H Q => ∃ i, xs = [.int i] ∧ Q (.int (if i < 0 then -i else i)) H) := by
  intro pins s σ H xs us Q I r h
  obtain ⟨i, rfl, q⟩ := h
  obtain ⟨u, rfl, t, rfl⟩ := vals1 r
  exact call_abs_int fun u tk => ⟨.int (if i < 0 then -i else i), H, I.tok _, ⟨_, rfl⟩, q⟩
theorem call_max2 (hc : X.calm = true) : CallR X (.builtin "max") (fun xs H Q => ∃ i j, xs = [.int i, .int j] ∧ Q (.int (if j > i then j else i)) H) := by
  intro pins s σ H xs us Q I r h
  obtain ⟨i, j, rfl, q⟩ := h
  obtain ⟨u, w', rfl, ⟨t, rfl⟩, ⟨t', rfl⟩⟩ := vals2 r
  refine max_two_ints (I.ok.hd hc) fun h' tk k => ⟨_, H, I.kept k, ?_, q⟩
  by_cases hj : j > i
  · rw [if_pos hj, if_pos hj]; exact ⟨_, rfl⟩
  · rw [if_neg hj, if_neg hj]; exact ⟨_, rfl⟩
theorem call_min2 (hc : X.calm = true) : CallR X (.builtin "min") (fun xs H Q => ∃ i j, xs = [.int i, .int j] ∧ Q (.int (if j < i then j else i)) H) := by
  intro pins s σ H xs us Q I r h
  obtain ⟨i, j, rfl, q⟩ := h
  obtain ⟨u, w', rfl, ⟨t, rfl⟩, ⟨t', rfl⟩⟩ := vals2 r
  refine min_two_ints (I.ok.hd hc) fun h' tk k => ⟨_, H, I.kept k, ?_, q⟩
  by_cases hj : j < i
  · rw [if_pos hj, if_pos hj]; exact ⟨_, rfl⟩
  · rw [if_neg hj, if_neg hj]; exact ⟨_, rfl⟩
theorem call_int1 : CallR X (.type "int") (fun xs H Q => (∃ i, xs = [.int i] ∧ Q (.int i) H) ∨ ∃ k, xs = [.bl k] ∧ Q (.int (if k then 1 else 0)) H) := by
  intro pins s σ H xs us Q I r h
  rcases h with ⟨i, rfl, q⟩ | ⟨k, rfl, q⟩
  · obtain ⟨u, rfl, t, rfl⟩ := vals1 r
    exact call_int_int ⟨.int i, H, I, ⟨_, rfl⟩, q⟩
  · obtain ⟨u, rfl, r1⟩ := vals1 r
    cases r1
    exact call_int_bool ⟨.int (if k then 1 else 0), H, I.tok _, ⟨_, rfl⟩, q⟩
theorem call_bool1 : CallR X (.type "bool") (fun xs H Q => (∃ i, xs = [.int i] ∧ Q (.bl (i != 0)) H) ∨ ∃ k, xs = [.bl k] ∧ Q (.bl k) H) := by
  intro pins s σ H xs us Q I r h
  rcases h with ⟨i, rfl, q⟩ | ⟨k, rfl, q⟩
  · obtain ⟨u, rfl, t, rfl⟩ := vals1 r
    exact call_bool_int ⟨.bl (i != 0), H, I, rfl, q⟩
  · obtain ⟨u, rfl, r1⟩ := vals1 r
    cases r1
    exact call_bool_bool ⟨.bl k, H, I, rfl, q⟩
theorem call_str_int : CallR X (.type "str") (fun xs H Q => ∃ i, xs = [.int i] ∧ i.natAbs.log2 < 1920 ∧ Q (.str (toString i)) H) := by
  intro pins s σ H xs us Q I r h
  obtain ⟨i, rfl, hz, q⟩ := h
  obtain ⟨u, rfl, t, rfl⟩ := vals1 r
  exact PySem.P.str_of_int hz ⟨.str _, H, I.tok _, ⟨_, rfl⟩, q⟩
theorem call_ord : CallR X (.builtin "ord") (fun xs H Q => ∃ x, xs = [.str x] ∧ x.length = 1 ∧ Q (.int (x.cps.getD 0 0 : Nat)) H) := by
  intro pins s σ H xs us Q I r h
  obtain ⟨x, rfl, hz, q⟩ := h
  obtain ⟨u, rfl, t, rfl⟩ := vals1 r
  exact ord_of_one hz ⟨.int _, H, I.tok _, ⟨_, rfl⟩, q⟩
theorem call_chr : CallR X (.builtin "chr") (fun xs H Q => ∃ i, xs = [.int i] ∧ 0 ≤ i ∧ i ≤ 1114111 ∧ Q (.str ⟨#[i.toNat]⟩) H) := by
  intro pins s σ H xs us Q I r h
  obtain ⟨i, rfl, h0, h1, q⟩ := h
  obtain ⟨u, rfl, t, rfl⟩ := vals1 r
  exact chr_of_range h0 h1 ⟨.str _, H, I.tok _, ⟨_, rfl⟩, q⟩
/-- len of a str, a bytes, a list, a tuple -/
def LenV (K : PySem.W.Frag) (x : V) (H : Hp) (n : Nat) : Prop :=
  match x with
  | .str y => y.length ≤ sizeLine ∧ n = y.length
  | .byt y => y.size ≤ sizeLine ∧ n = y.size
  | .ref p => (∃ xs, SqL K H p xs ∧ n = xs.length) ∨ ∃ xs, SqT K H p xs ∧ n = xs.length
  | _ => False
theorem call_len : CallR X (.builtin "len") (fun xs H Q => ∃ x n, xs = [x] ∧ LenV X.K x H n ∧ Q (.int n) H) := by
  intro pins s σ H xs us Q I r h
  obtain ⟨x, n, rfl, e, q⟩ := h
  obtain ⟨u, rfl, rx⟩ := vals1 r
  have hl := line63
  have hs : sizeLine = 16777216 := sizeLine_eq
  cases x with
  | str y =>
    obtain ⟨t, rfl⟩ := rx
    obtain ⟨hy, e'⟩ : y.length ≤ sizeLine ∧ n = y.length := e
    subst e'
    exact len_str (by omega) ⟨.int _, H, I.tok _, ⟨_, rfl⟩, q⟩
  | byt y =>
    obtain ⟨t, rfl⟩ := rx
    obtain ⟨hy, e'⟩ : y.size ≤ sizeLine ∧ n = y.size := e
    subst e'
    exact PySem.W.len_bytes (by omega) ⟨.int _, H, I.tok _, ⟨_, rfl⟩, q⟩
  | ref p =>
    cases rx
    have e' : (∃ xs, SqL X.K H p xs ∧ n = xs.length) ∨ ∃ xs, SqT X.K H p xs ∧ n = xs.length := e
    rcases e' with ⟨xs, hx, e'⟩ | ⟨xs, hx, e'⟩
    · subst e'
      obtain ⟨its, r', pl, hz⟩ := I.list hx
      have hlen := r'.length
      exact Calls.call_len_list pl.isList (by simp only [List.size_toArray]; omega) ⟨.int xs.length, H, I.tok _, ⟨_, by simp only [List.size_toArray]; rw [hlen]⟩, q⟩
    · subst e'
      obtain ⟨its, r', pl, hz⟩ := I.tuple hx
      have hlen := r'.length
      exact len_tuple pl (by simp only [List.size_toArray]; omega) ⟨.int xs.length, H, I.tok _, ⟨_, by simp only [List.size_toArray]; rw [hlen]⟩, q⟩
  | _ => exact (show False from e).elim
/-- divmod: a new tuple -/
theorem call_divmod : CallR X (.builtin "divmod") (fun xs H Q => ∃ i j, xs = [.int i, .int j] ∧ CDiv i j ∧ ∀ p, H p = none → Q (.ref p) (upd H p (.tup [.int (i / j), .int (i % j)]))) := by
  intro pins s σ H xs us Q I r h
  obtain ⟨i, j, rfl, ⟨h1, h2⟩, q⟩ := h
  obtain ⟨u, w', rfl, ⟨t, rfl⟩, ⟨t', rfl⟩⟩ := vals2 r
  refine divmod_int (by omega) ?_ (.inl (PyProof.noPylong_small (by omega)))
  rw [Int.fdiv_eq_ediv_of_nonneg i (by omega), Int.fmod_eq_emod_of_nonneg i (by omega)]
  have hn : H s.heap.objs.size = none := I.hok.fresh (Nat.le_refl _)
  refine ⟨.ref s.heap.objs.size, _, ?_, rfl, q _ hn⟩
  refine I.laid (fun b o e => Heap.get?_push_of_some _ e) (Nat.le_refl _) ⟨by simp only [List.length_cons, List.length_nil]; rw [sizeLine_eq]; decide, [.int (i / j) s.toks, .int (i % j) (s.toks + 1)], .cons ⟨_, rfl⟩ (.cons ⟨_, rfl⟩ .nil), ?_⟩
  exact ⟨_, Heap.get?_push_size s.heap rfl, rfl, 0, rfl⟩
end
end L2

namespace L2
open PySem PySem.Spec PyProof.Rows

/-! ### an instance, its attributes a map -/
structure ObjM (h : Heap) (x dx C : Addr) (mA : Str → Option Value) : Prop where
  obj : h.get? x = some (PySem.W.instObj C dx)
  ns : h.Ns1 dx mA
  ne : dx ≠ x

theorem lookIn_ns {h : Heap} {dx : Addr} {mA : Str → Option Value} (n : h.Ns1 dx mA) : ∃ od, h.get? dx = some od ∧ ∀ name, PySem.W.lookIn name od = some (mA name) := by
  obtain ⟨o, es, ep, ho, hd, hk, _, hm⟩ := n
  refine ⟨o, ho, fun name => ?_⟩
  have e := hm name
  unfold nsFind findBy at e
  rw [← Array.find?_toList] at e
  unfold PySem.W.lookIn
  rw [hd]
  dsimp only
  split
  · rename_i y q
    rw [q] at e
    exact congrArg some e
  · rename_i q
    rw [q] at e
    have a : es.toList.any (·.refKey) = false := by
      rw [List.any_eq_false]
      intro y hy
      obtain ⟨z, t, hkey⟩ := hk y (Array.mem_toList_iff.mp hy)
      simp [DictEntry.refKey, hkey]
    have a' : ¬ es.toList.any (·.refKey) = true := by rw [a]; exact Bool.false_ne_true
    rw [if_neg a']
    exact congrArg some e

theorem ObjM.look {h : Heap} {x dx C : Addr} {mA : Str → Option Value} (I : ObjM h x dx C mA) : ∃ od, PySem.W.InstAt h x (PySem.W.instObj C dx) C (some od) ∧ ∀ name, PySem.W.lookIn name od = some (mA name) :=
  let ⟨od, ho, hl⟩ := lookIn_ns I.ns
  ⟨od, ⟨I.obj, rfl, rfl, ho⟩, hl⟩

section
variable {prog : Program} {w : World} {A : Around} {E : Value → Shared → Prop} {s : Shared} {K : PySem.W.Frag} {x dx C f : Addr} {mA : Str → Option Value} {name : Str} {v : Value}

theorem get_map {expr : Bool} {Q : Value → Shared → Prop} (X : K.In s.heap) (I : ObjM s.heap x dx C mA) (hg : PySem.W.plainGet K C name = true) (hh : PySem.W.hasDictIn K C = true)
    (ha : PySem.W.findIn K (.ref C) name = some none) (hv : mA name = some v) (hv' : PySem.W.handedIn v = true) (h : Q v { s with toks := s.toks + 1 }) :
    wpAny (model prog w) A (getAttr (.ref x) name expr) Q E s := by
  obtain ⟨od, J, hl⟩ := I.look
  exact PySem.W.get_value X J (PySem.W.plainGet_of hg).1 (PySem.W.findObj_own hh ha rfl (by rw [hl, hv])) hv' h

theorem get_const {expr : Bool} {a : Value} {Q : Value → Shared → Prop} (X : K.In s.heap) (I : ObjM s.heap x dx C mA) (hg : PySem.W.plainGet K C name = true) (hh : PySem.W.hasDictIn K C = true)
    (ha : PySem.W.findIn K (.ref C) name = some (some a)) (hn : PySem.W.specialIn K a "__get__" = some none) (hc : PySem.W.copiedNames.contains name = false) (hv : mA name = none) (hv' : PySem.W.handedIn a = true)
    (h : Q a { s with toks := s.toks + 1 }) : wpAny (model prog w) A (getAttr (.ref x) name expr) Q E s := by
  obtain ⟨od, J, hl⟩ := I.look
  exact PySem.W.get_value X J (PySem.W.plainGet_of hg).1 (PySem.W.findObj_cls hh ha hn hv' hc (by rw [hl, hv])) hv' h

theorem get_meth {pl : Sem Bool} {Q : Value × List Value → Shared → Prop} (X : K.In s.heap) (I : ObjM s.heap x dx C mA) (hg : PySem.W.plainGet K C name = true)
    (hf : PySem.W.findIn K (.ref C) name = some (some (.ref f))) (ht : PySem.W.isFn K (.ref f) = true) (hv : mA name = none) (h : Q (.ref f, [.ref x]) s) :
    wpAny (model prog w) A (getMethod (.ref x) name pl) Q E s := by
  obtain ⟨od, J, hl⟩ := I.look
  exact PySem.W.method_fn X J (PySem.W.plainGet_of hg).1 (PySem.W.plainGet_of hg).2 hf (beq_iff_eq.mp ht) (by show (PySem.W.lookIn name od).map (·.isSome) = some false; rw [hl, hv]; rfl) h

theorem set_map {ns : List Str} {Q : Unit → Shared → Prop} (X : K.In s.heap) (I : ObjM s.heap x dx C mA)
    (hs : PySem.W.findIn K (.ref C) "__setattr__" = some (some (.builtin "object.__setattr__"))) (hp : PySem.W.plainOver K C = true) (ht : PySem.W.takerIn K C name = some none) (hh : PySem.W.hasDictIn K C = true)
    (hw : PySem.Within mA ns) (hsz : ns.length ≤ sizeLine)
    (h : ∀ h', ObjM h' x dx C (fun y => if y = name then some v else mA y) → Heap.SameBut dx s.heap h' → Q () { s with heap := h', toks := s.toks + 2 }) :
    wpAny (model prog w) A (setAttr (.ref x) name v) Q E s := by
  obtain ⟨od, J, hl⟩ := I.look
  refine PySem.W.set_plain X J hs (PySem.W.osa_open (s := { s with toks := s.toks + 1 }) (r := none) X J hp ht fun b => ?_)
  obtain ⟨cd, hc, hd'⟩ := PySem.W.any_some hh
  have hx : s.heap.get? x = some ⟨.ref C, some dx, .plain, #[]⟩ := I.obj
  refine wpAny_bind (wpAny_pure (wpAny_bind (wpAny_bind (wpAny_loadPart hx (wpAny_bind (PySem.W.Looks.here (s := { s with toks := s.toks + 1 }) (PySem.W.looks_clsIn X hc) ?_))))))
  rw [hd']
  refine wpAny_pure (a := some dx) (wpAny_bind (wpAny_pure (wpAny_bind ?_)))
  refine wpAny_nsSet1 (s := { s with toks := s.toks + 1 }) I.ns fun h' hn2 hs2 => ?_
  obtain ⟨oD, esD, epD, hoD, hdD, hcD⟩ := hn2.count (PySem.Within.cons name v hw)
  refine wpAny_bind (wpAny_lookBehind hoD (by rw [hdD]; exact pastItsLine_dict (Nat.le_trans hcD (by rw [List.length_cons]; omega))) ?_)
  exact wpAny_pure (h _ ⟨(hs2.2 _ (Ne.symm I.ne)).trans I.obj, hn2, I.ne⟩ hs2)

/-- C(..): the dict at the heap's end, the instance behind it; then its __init__ -/
theorem make_map {R : Result → Shared → Prop} {vs : List Value} {kw : List (Str × Value)} (X : K.In s.heap) (hm : PySem.W.makesIn K C = true)
    (hi : PySem.W.findIn K (.ref C) "__init__" = some (some (.ref f))) (hf : PySem.W.typeIn K (.ref f) = some (.type "function"))
    (h : codeAny (model prog w) (A.under (.builtin "type.__call__" ⟨.ref C :: vs, kw⟩)) (.call (.ref f) ⟨.ref (s.heap.objs.size + 1) :: vs, kw⟩) (PySem.W.InitBack (s.heap.objs.size + 1) R)
      { s with heap := (s.heap.push PySem.W.emptyDict).push (PySem.W.instObj C s.heap.objs.size) }) :
    codeAny (model prog w) A (.call (.ref C) ⟨vs, kw⟩) R s := by
  obtain ⟨hh, g, d, t, os⟩ := s
  exact PySem.W.make_core (PySem.W.makes_of X hm) (PySem.W.looks_findIn X hi) (fun self => PySem.W.bind_fn X self hf) (.inl rfl) h
/-- C() where there is no __init__ but object's -/
theorem make_map0 {R : Result → Shared → Prop} (X : K.In s.heap) (hm : PySem.W.makesIn K C = true)
    (hi : PySem.W.findIn K (.ref C) "__init__" = some (some (.builtin "object.__init__")))
    (hb : ∀ self, PySem.W.Looks (model prog w) s.heap (bindSpecial (.builtin "object.__init__") self) (.builtin "object.__init__", [self]))
    (h : codeAny (model prog w) (A.under (.builtin "type.__call__" ⟨[.ref C], []⟩)) (.call (.builtin "object.__init__") ⟨[.ref (s.heap.objs.size + 1)], []⟩) (PySem.W.InitBack (s.heap.objs.size + 1) R)
      { s with heap := (s.heap.push PySem.W.emptyDict).push (PySem.W.instObj C s.heap.objs.size) }) :
    codeAny (model prog w) A (.call (.ref C) ⟨[], []⟩) R s := by
  obtain ⟨hh, g, d, t, os⟩ := s
  exact PySem.W.make_core (PySem.W.makes_of X hm) (PySem.W.looks_findIn X hi) hb (.inr ⟨rfl, rfl⟩) h
end

/-! ### the attributes as a list of pairs -/
def putF (f : Str) (v : V) : List (Str × V) → List (Str × V)
  | [] => [(f, v)]
  | (g, x) :: r => if g = f then (g, v) :: r else (g, x) :: putF f v r
theorem lookup_putF (f g : Str) (v : V) : ∀ fs : List (Str × V), (putF f v fs).lookup g = if g = f then some v else fs.lookup g
  | [] => by
    show List.lookup g [(f, v)] = _
    by_cases h : g = f
    · have hb : (g == f) = true := beq_iff_eq.mpr h
      simp only [List.lookup, hb, if_pos h]
    · have hb : (g == f) = false := beq_eq_false_iff_ne.mpr h
      simp only [List.lookup, hb, if_neg h]
  | (k, x) :: r => by
    have ih := lookup_putF f g v r
    rw [show putF f v ((k, x) :: r) = (if k = f then (k, v) :: r else (k, x) :: putF f v r) from rfl]
    by_cases hk : k = f
    · rw [if_pos hk]
      by_cases h : g = k
      · have hb : (g == k) = true := beq_iff_eq.mpr h
        simp only [List.lookup, hb, if_pos (h.trans hk)]
      · have hb : (g == k) = false := beq_eq_false_iff_ne.mpr h
        simp only [List.lookup, hb, if_neg (fun e : g = f => h (e.trans hk.symm))]
    · rw [if_neg hk]
      by_cases h : g = k
      · have hb : (g == k) = true := beq_iff_eq.mpr h
        simp only [List.lookup, hb, if_neg (fun e : g = f => hk (h.symm.trans e))]
      · have hb : (g == k) = false := beq_eq_false_iff_ne.mpr h
        simp only [List.lookup, hb]
        exact ih
theorem keys_putF (f : Str) (v : V) : ∀ fs : List (Str × V), f ∈ (putF f v fs).map (·.1) ∧ ∀ g, g ∈ fs.map (·.1) → g ∈ (putF f v fs).map (·.1)
  | [] => ⟨by simp [putF], fun g h => by simp at h⟩
  | (k, x) :: r => by
    obtain ⟨i1, i2⟩ := keys_putF f v r
    rw [show putF f v ((k, x) :: r) = (if k = f then (k, v) :: r else (k, x) :: putF f v r) from rfl]
    by_cases hk : k = f
    · rw [if_pos hk]
      subst hk
      exact ⟨by simp, fun g h => by simpa using h⟩
    · rw [if_neg hk]
      refine ⟨?_, fun g h => ?_⟩
      · rw [List.map_cons]
        exact List.mem_cons_of_mem _ i1
      · rw [List.map_cons] at h ⊢
        rcases List.mem_cons.mp h with e | e
        · exact List.mem_cons.mpr (.inl e)
        · exact List.mem_cons_of_mem _ (i2 g e)
theorem length_putF (f : Str) (v : V) : ∀ fs : List (Str × V), (putF f v fs).length ≤ fs.length + 1
  | [] => by simp [putF]
  | (k, x) :: r => by
    have ih := length_putF f v r
    rw [show putF f v ((k, x) :: r) = (if k = f then (k, v) :: r else (k, x) :: putF f v r) from rfl]
    by_cases hk : k = f
    · rw [if_pos hk, List.length_cons, List.length_cons]; omega
    · rw [if_neg hk, List.length_cons, List.length_cons]; omega

theorem RelO.some_of {v : V} {o : Option Value} (r : RelO (some v) o) : ∃ u, o = some u ∧ RelV v u := by
  cases o with
  | none => exact (show False from r).elim
  | some u => exact ⟨u, rfl, r⟩
theorem RelO.none_of {o : Option Value} (r : RelO none o) : o = none := by
  cases o with
  | none => rfl
  | some u => exact (show False from r).elim
theorem handed_of {v : V} {u : Value} (r : RelV v u) : PySem.W.handedIn u = true := by
  cases v with
  | non => cases (show u = Value.none from r); rfl
  | bl b => cases (show u = Value.bool b from r); rfl
  | int i => obtain ⟨t, e⟩ := (show ∃ t, u = Value.int i t from r); cases e; rfl
  | str x => obtain ⟨t, e⟩ := (show ∃ t, u = Value.str x t from r); cases e; rfl
  | byt b => obtain ⟨t, e⟩ := (show ∃ t, u = Value.bytes b t from r); cases e; rfl
  | flt b => obtain ⟨t, e⟩ := (show ∃ t, u = Value.float b t from r); cases e; rfl
  | ref a => cases (show u = Value.ref a from r); rfl
  | ty n => cases (show u = Value.type n from r); rfl

section
variable {P : Program} {w : World} {H H' : Hp} {h h' : Heap} {a C dx : Addr} {fs fs' : List (Str × V)}
theorem ins_get (hok : HOk P w H h) (e : H a = some (.ins C dx fs)) : ∃ mA, ObjM h a dx C mA ∧ (∀ f, RelO (fs.lookup f) (mA f)) ∧ PySem.Within mA (fs.map (·.1)) ∧ fs.length ≤ 1000 ∧ H dx = some (.own a) := by
  obtain ⟨d, z, ne, ob, mA, n, r, q⟩ := (show ObjOk P w H h a (.ins C dx fs) from hok a _ e)
  exact ⟨mA, ⟨ob, n, ne⟩, r, q, z, d⟩
end

/-! ### what of the text a class must have -/
structure Cls (K : PySem.W.Frag) (C : Addr) : Prop where
  pg : PySem.W.plainGet K C Str.empty = true
  hd : PySem.W.hasDictIn K C = true
  po : PySem.W.plainOver K C = true
  sa : PySem.W.findIn K (.ref C) "__setattr__" = some (some (.builtin "object.__setattr__"))
theorem Cls.get {K : PySem.W.Frag} {C : Addr} (c : Cls K C) (f : Str) : PySem.W.plainGet K C f = true := c.pg
/-- no class of it has the name -/
def NoAttr (K : PySem.W.Frag) (C : Addr) (f : Str) : Prop := PySem.W.findIn K (.ref C) f = some none
theorem NoAttr.taker {K : PySem.W.Frag} {C : Addr} {f : Str} (n : NoAttr K C f) : PySem.W.takerIn K C f = some none := by
  unfold PySem.W.takerIn
  rw [show PySem.W.findIn K (.ref C) f = some none from n]
  rfl
/-- a constant of the class -/
structure Con (K : PySem.W.Frag) (C : Addr) (f : Str) (v : V) (u : Value) : Prop where
  at_ : PySem.W.findIn K (.ref C) f = some (some u)
  rel : RelV v u
  get : PySem.W.specialIn K u "__get__" = some none
  cp : PySem.W.copiedNames.contains f = false
/-- a method: a plain def of the class or of one above it -/
structure Meth (K : PySem.W.Frag) (C : Addr) (m : Str) (f : Addr) : Prop where
  at_ : PySem.W.findIn K (.ref C) m = some (some (.ref f))
  fn : PySem.W.isFn K (.ref f) = true
  kp : PySem.W.keepIn K (.ref f) = true

section
variable {X : Cx} {pins : List (Addr × Obj)} {σ : St} {H : Hp} {s : Shared} {a C dx : Addr} {fs : List (Str × V)} {f : Str} {v : V} {A : Around} {E : Value → Shared → Prop}

theorem getattr_ok {b : Bool} {Q : Value → Shared → Prop} (I : Inv X pins σ H s) (e : H a = some (.ins C dx fs)) (c : Cls X.K C) (n : NoAttr X.K C f) (l : fs.lookup f = some v)
    (h : ∀ u s', Inv X pins σ H s' → RelV v u → Q u s') : wpAny (model X.prog X.w) A (getAttr (.ref a) f b) Q E s := by
  obtain ⟨mA, O, r, _, _, _⟩ := ins_get I.hok e
  obtain ⟨u, hu, ru⟩ := RelO.some_of (v := v) (o := mA f) (by rw [← l]; exact r f)
  exact get_map I.kIn O (c.get f) c.hd n hu (handed_of ru) (h u _ (I.tok _) ru)

theorem getcon_ok {b : Bool} {u : Value} {Q : Value → Shared → Prop} (I : Inv X pins σ H s) (e : H a = some (.ins C dx fs)) (c : Cls X.K C) (k : Con X.K C f v u) (l : fs.lookup f = none)
    (h : ∀ s', Inv X pins σ H s' → Q u s') : wpAny (model X.prog X.w) A (getAttr (.ref a) f b) Q E s := by
  obtain ⟨mA, O, r, _, _, _⟩ := ins_get I.hok e
  have hn : mA f = none := RelO.none_of (by rw [← l]; exact r f)
  exact get_const I.kIn O (c.get f) c.hd k.at_ k.get k.cp hn (handed_of k.rel) (h _ (I.tok _))

theorem getmeth_ok {m : Str} {g : Addr} {pl : Sem Bool} {Q : Value × List Value → Shared → Prop} (I : Inv X pins σ H s) (e : H a = some (.ins C dx fs)) (c : Cls X.K C) (k : Meth X.K C m g) (l : fs.lookup m = none)
    (h : Q (.ref g, [.ref a]) s) : wpAny (model X.prog X.w) A (getMethod (.ref a) m pl) Q E s := by
  obtain ⟨mA, O, r, _, _, _⟩ := ins_get I.hok e
  have hn : mA m = none := RelO.none_of (by rw [← l]; exact r m)
  exact get_meth I.kIn O (c.get m) k.at_ k.fn hn h

theorem setattr_ok {y : V} {u : Value} {Q : Unit → Shared → Prop} (I : Inv X pins σ H s) (e : H a = some (.ins C dx fs)) (c : Cls X.K C) (n : NoAttr X.K C f) (hl : fs.length < 1000) (ry : RelV y u)
    (h : ∀ s', Inv X pins σ (upd H a (.ins C dx (putF f y fs))) s' → Q () s') : wpAny (model X.prog X.w) A (setAttr (.ref a) f u) Q E s := by
  obtain ⟨mA, O, r, wi, _, ho⟩ := ins_get I.hok e
  have hz : (fs.map (·.1)).length ≤ sizeLine := by rw [List.length_map, sizeLine_eq]; omega
  refine set_map I.kIn O c.sa c.po n.taker c.hd wi hz fun h' O' sb => h _ ?_
  have hd : ∃ o, h'.get? dx = some o := let ⟨o, _, _, e', _⟩ := O'.ns; ⟨o, e'⟩
  refine I.write (x := a) (e := dx) (by rw [e]; exact True.intro) (.inr ho) (fun b q hb z => (sb.2 b hb).trans z) hd ?_
  refine ⟨by rw [upd_ne O.ne]; exact ho, ?_, O.ne, O'.obj, _, O'.ns, fun g => ?_, fun g hg => ?_⟩
  · have := length_putF f y fs; omega
  · show RelO ((putF f y fs).lookup g) (if g = f then some u else mA g)
    rw [lookup_putF]
    by_cases q : g = f
    · rw [if_pos q, if_pos q]; exact ry
    · rw [if_neg q, if_neg q]; exact r g
  · by_cases q : g = f
    · rw [q]; exact (keys_putF f y fs).1
    · refine (keys_putF f y fs).2 g (wi g fun z => hg ?_)
      show (if g = f then some u else mA g) = none
      rw [if_neg q]; exact z

/-- a new instance, tracked, without attributes -/
theorem Inv.made (I : Inv X pins σ H s) : Inv X pins σ (upd (upd H s.heap.objs.size (.own (s.heap.objs.size + 1))) (s.heap.objs.size + 1) (.ins C s.heap.objs.size []))
    { s with heap := (s.heap.push PySem.W.emptyDict).push (PySem.W.instObj C s.heap.objs.size) } := by
  have e1 : (s.heap.push PySem.W.emptyDict).get? s.heap.objs.size = some PySem.W.emptyDict := Heap.get?_push_size s.heap rfl
  have e2 : ((s.heap.push PySem.W.emptyDict).push (PySem.W.instObj C s.heap.objs.size)).get? (s.heap.objs.size + 1) = some (PySem.W.instObj C s.heap.objs.size) := by
    have := Heap.get?_push_size (s.heap.push PySem.W.emptyDict) (o := PySem.W.instObj C s.heap.objs.size) rfl
    rwa [Heap.size_push] at this
  have e3 : (s.heap.push PySem.W.emptyDict).Ns s.heap.objs.size (fun _ => none) := ⟨PySem.W.emptyDict, #[], _, e1, rfl, (fun e he => absurd he (by simp)), fun _ => rfl⟩
  have I1 := I.laid (a := s.heap.objs.size) (o := .own (s.heap.objs.size + 1)) (h' := s.heap.push PySem.W.emptyDict) (t' := s.toks) (fun b u q => Heap.get?_push_of_some _ q) (Nat.le_refl _) ⟨_, e1⟩
  refine I1.laid (a := s.heap.objs.size + 1) (o := .ins C s.heap.objs.size []) (t' := s.toks) (fun b u q => Heap.get?_push_of_some _ q) (Nat.le_of_eq (Heap.size_push _ _)) ?_
  have ne : s.heap.objs.size ≠ s.heap.objs.size + 1 := Nat.ne_of_lt (Nat.lt_succ_self _)
  refine ⟨by rw [upd_ne ne, upd_same], Nat.zero_le _, ne, e2, fun _ => none, (Heap.Ns1.of_empty e3).at fun o q => Heap.get?_push_of_some _ q, fun _ => True.intro, fun y hy => absurd rfl hy⟩

/-- e.f where nothing but the object is asked: through attributeBase (super) and the last hold -/
theorem attr_of {prog : Program} {w : World} {env : Env} {e : Expr} {f : Str} {pos : Pos} {s : Shared} {Q : Value → Shared → Prop} (hb : attributeBase e f env (eval e env) = eval e env)
    (h : wpAny (model prog w) A (eval e env) (fun o s₁ => wpAny (model prog w) A (getAttr o f true) Q E s₁) E s) : wpAny (model prog w) A (eval (.Attribute e f pos) env) Q E s :=
  Attribute_any_ h (by rw [arm_eval_Attribute, hb])
end

/-! ### readings and rules -/
/-- e.f, an attribute of the instance -/
def tFld (K : PySem.W.Frag) (ta : TE) (f : Str) : TE := fun σ H Q => ta σ H fun x H1 => ∃ a C dx fs v, x = .ref a ∧ H1 a = some (.ins C dx fs) ∧ Cls K C ∧ NoAttr K C f ∧ fs.lookup f = some v ∧ Q v H1
/-- e.f, a constant of the class -/
def tCon (K : PySem.W.Frag) (ta : TE) (f : Str) : TE := fun σ H Q => ta σ H fun x H1 => ∃ a C dx fs v u, x = .ref a ∧ H1 a = some (.ins C dx fs) ∧ Cls K C ∧ Con K C f v u ∧ fs.lookup f = none ∧ Q v H1
/-- e.f = value -/
def sFld (K : PySem.W.Frag) (ta tv : TE) (f : Str) : TS := fun D σ H => tv σ H fun y H1 => ta σ H1 fun x H2 => ∃ a C dx fs, x = .ref a ∧ H2 a = some (.ins C dx fs) ∧ Cls K C ∧ NoAttr K C f ∧ fs.length < 1000 ∧
  D.nx σ (upd H2 a (.ins C dx (putF f y fs)))
/-- an augmented operator on two values -/
def InOp (X : Cx) (op : Operator) (rd : V → V → Hp → VK → Prop) : Prop :=
  ∀ (pins : List (Addr × Obj)) (s : Shared) (σ : St) (H : Hp) (x y : V) (u v : Value) (Q : VK), Inv X pins σ H s → RelV x u → RelV y v → rd x y H Q → wpAny (model X.prog X.w) X.A (inplaceOp op u v) (EP X pins σ Q) X.xe s
/-- e.f op= value -/
def sFldAug (K : PySem.W.Frag) (ta tv : TE) (rd : V → V → Hp → VK → Prop) (f : Str) : TS := fun D σ H => ta σ H fun x H1 => ∃ a C dx fs v, x = .ref a ∧ H1 a = some (.ins C dx fs) ∧ Cls K C ∧ NoAttr K C f ∧ fs.lookup f = some v ∧
  tv σ H1 fun y H2 => rd v y H2 fun z H3 => ∃ dx' fs', H3 a = some (.ins C dx' fs') ∧ fs'.length < 1000 ∧ D.nx σ (upd H3 a (.ins C dx' (putF f z fs')))

section
variable {X : Cx} {o e value : Expr} {f : Str} {pos pos' tpos : Pos} {ta tv : TE}
theorem pe_fld (he : PE X e ta) (hb : attributeBase e f X.env (eval e X.env) = eval e X.env) : PE X (.Attribute e f pos) (tFld X.K ta f) := by
  intro pins s σ H Q I h
  refine attr_of hb (thn (he pins s σ H _ I h) fun u s1 ⟨x, H1, I1, rx, a, C, dx, fs, v, ex, ea, c, n, l, q⟩ => ?_)
  subst ex
  obtain rfl : u = Value.ref a := rx
  exact getattr_ok I1 ea c n l fun u' s2 I2 ru => ⟨v, H1, I2, ru, q⟩
theorem pe_con (he : PE X e ta) (hb : attributeBase e f X.env (eval e X.env) = eval e X.env) : PE X (.Attribute e f pos) (tCon X.K ta f) := by
  intro pins s σ H Q I h
  refine attr_of hb (thn (he pins s σ H _ I h) fun u s1 ⟨x, H1, I1, rx, a, C, dx, fs, v, u0, ex, ea, c, k, l, q⟩ => ?_)
  subst ex
  obtain rfl : u = Value.ref a := rx
  exact getcon_ok I1 ea c k l fun s2 I2 => ⟨v, H1, I2, k.rel, q⟩
theorem ps_fld (ha : PE X o ta) (hv : PE X value tv) (hs : swapsWith value (some (.Attribute o f pos')) pos.line X.env = pure false) : PS X (.Assign [.Attribute o f pos'] value pos) (sFld X.K ta tv f) := by
  intro pins s σ H D I h
  refine plainObj_wpAny_Assign_Attribute (thn (hv pins s σ H _ I h) fun u s1 ⟨y, H1, I1, ry, q⟩ => thn (ha pins s1 σ H1 _ I1 q) fun ov s2 ⟨x, H2, I2, rx, a, C, dx, fs, ex, ea, c, n, l, q2⟩ => ?_) hs
  subst ex
  obtain rfl : ov = Value.ref a := rx
  exact setattr_ok I2 ea c n l ry fun s3 I3 => ⟨σ, _, I3, q2⟩
theorem ps_fldaug {op : Operator} {rd : V → V → Hp → VK → Prop} (ha : PE X o ta) (hv : PE X value tv) (hop : InOp X op rd) : PS X (.AugAssign (.Attribute o f tpos) op value pos) (sFldAug X.K ta tv rd f) := by
  intro pins s σ H D I h
  refine wpAny_AugAssign_AttributeAny (thn (ha pins s σ H _ I h) fun ov s1 ⟨x, H1, I1, rx, a, C, dx, fs, v, ex, ea, c, n, l, q⟩ => ?_)
  subst ex
  obtain rfl : ov = Value.ref a := rx
  refine getattr_ok I1 ea c n l fun u s2 I2 ru => thn (hv pins s2 σ H1 _ I2 q) fun w3 s3 ⟨y, H2, I3, ry, q3⟩ => thn (hop pins s3 σ H2 v y u w3 _ I3 ru ry q3) fun w4 s4 ⟨z, H3, I4, rz, dx', fs', ea', l', q4⟩ => ?_
  exact setattr_ok I4 ea' c n l' rz fun s5 I5 => ⟨σ, _, I5, q4⟩
def rAdd : V → V → Hp → VK → Prop := fun x y H Q => ∃ i j, x = .int i ∧ y = .int j ∧ Q (.int (i + j)) H
def rSub : V → V → Hp → VK → Prop := fun x y H Q => ∃ i j, x = .int i ∧ y = .int j ∧ Q (.int (i - j)) H
theorem in_add : InOp X .Add rAdd := by
  rintro pins s σ H x y u v Q I rx ry ⟨i, j, rfl, rfl, q⟩
  obtain ⟨t, rfl⟩ := (show ∃ t, u = Value.int i t from rx)
  obtain ⟨t', rfl⟩ := (show ∃ t', v = Value.int j t' from ry)
  exact PyProof.Rows.iadd_int ⟨.int (i + j), H, I.tok _, ⟨_, rfl⟩, q⟩
theorem in_sub : InOp X .Sub rSub := by
  rintro pins s σ H x y u v Q I rx ry ⟨i, j, rfl, rfl, q⟩
  obtain ⟨t, rfl⟩ := (show ∃ t, u = Value.int i t from rx)
  obtain ⟨t', rfl⟩ := (show ∃ t', v = Value.int j t' from ry)
  exact PyProof.Rows.isub_int ⟨.int (i - j), H, I.tok _, ⟨_, rfl⟩, q⟩

/-- what is between an instance and its method: the tree of a method call -/
theorem methcall_of {pl : Sem Bool} {m : Str} {apos : Pos} {args : List Expr} {pins : List (Addr × Obj)} {s : Shared} {σ : St} {H : Hp} {Q : Value → Shared → Prop} {te : TE} (he : PE X e te) (I : Inv X pins σ H s)
    (h : te σ H fun x H1 => ∃ a C dx fs g, x = .ref a ∧ H1 a = some (.ins C dx fs) ∧ Cls X.K C ∧ Meth X.K C m g ∧ fs.lookup m = none ∧
      ∀ s1, Inv X pins σ H1 s1 → wpAny (model X.prog X.w) X.A (callWith pos (.ref g) [.ref a] (backTo pos (starEach args X.env)) (backToKw pos (keywordEach [] X.env))) Q X.xe s1)
    (ht : eval (.Call (.Attribute e m apos) args [] pos) X.env = (do
      let ov ← eval e X.env
      standAt apos.atName
      let (f, first) ← holding [ov] (getMethod ov m pl)
      callWith pos f first (backTo pos (starEach args X.env)) (backToKw pos (keywordEach [] X.env)))) :
    wpAny (model X.prog X.w) X.A (eval (.Call (.Attribute e m apos) args [] pos) X.env) Q X.xe s := by
  refine PySem.W.methodCall_KW (pl := pl) (thn (he pins s σ H _ I h) fun u s1 ⟨x, H1, I1, rx, a, C, dx, fs, g, ex, ea, c, k, l, q⟩ => ?_) ht
  subst ex
  obtain rfl : u = Value.ref a := rx
  exact getmeth_ok I1 ea c k l (q s1 I1)
end

/-! ### isinstance -/
section
variable {X : Cx} {pins : List (Addr × Obj)} {σ : St} {H : Hp} {s : Shared} {A : Around} {E : Value → Shared → Prop} {Q : Value → Shared → Prop} {c : Value} {b : Bool}
/-- the type of a value, as the fragment's deciders take it; for an instance its class -/
inductive TyOf (K : PySem.W.Frag) (H : Hp) : V → Value → Prop where
  | non : TyOf K H .non (.type "NoneType")
  | bl (x : Bool) : TyOf K H (.bl x) (.type "bool")
  | int (i : Int) : TyOf K H (.int i) (.type "int")
  | str (x : Str) : TyOf K H (.str x) (.type "str")
  | flt (x : UInt64) : TyOf K H (.flt x) (.type "float")
  | lst {a : Addr} {xs : List V} (e : H a = some (.lst xs)) : TyOf K H (.ref a) (.type "list")
  | frz {a : Addr} {o : Obj} {xs : List V} (e : H a = some (.frz o (.lst xs))) : TyOf K H (.ref a) (.type "list")
  | tup {a : Addr} {xs : List V} (e : H a = some (.tup xs)) : TyOf K H (.ref a) (.type "tuple")
  | dK {a : Addr} {kvs : List (Key × V)} (e : H a = some (.dK kvs)) : TyOf K H (.ref a) (.type "dict")
  | dT {a : Addr} {kvs : List (List Key × V)} (e : H a = some (.dT kvs)) : TyOf K H (.ref a) (.type "dict")
  | ins {a C dx : Addr} {fs : List (Str × V)} (e : H a = some (.ins C dx fs)) (cl : Cls K C) (ha : PySem.W.findIn K (.ref C) "__class__" = some (some (.builtin "object.__class__")))
      (hn : PySem.W.specialIn K (.builtin "object.__class__") "__get__" = some (some (.builtin "getset_descriptor.__get__"))) (htk : PySem.W.takesIn K (.builtin "object.__class__") = some true)
      (hm : PySem.W.mroIn K C (.type "object") = some true) : TyOf K H (.ref a) (.ref C)
/-- isinstance(x, c) for one class c, a built-in or an own one: kitOne's answer -/
theorem isinst_ok {x : V} {u t : Value} (I : Inv X pins σ H s) (rx : RelV x u) (ty : TyOf X.K H x t) (e : PySem.W.kitOne X.K t c = some b) (h : ∀ tk, Q (.bool b) { s with toks := tk }) :
    wpAny (model X.prog X.w) A (call (.builtin "isinstance") [u, c]) Q E s := by
  cases ty with
  | non => cases (show u = Value.none from rx); exact PySem.W.kia_one PySem.W.kitx_none I.kIn True.intro e (fun z => nomatch z) h
  | bl y => cases (show u = Value.bool y from rx); exact PySem.W.kia_one PySem.W.kitx_bool I.kIn True.intro e (fun z => nomatch z) h
  | int i => obtain ⟨t, q⟩ := (show ∃ t, u = Value.int i t from rx); cases q; exact PySem.W.kia_one PySem.W.kitx_int I.kIn True.intro e (fun z => nomatch z) h
  | str y => obtain ⟨t, q⟩ := (show ∃ t, u = Value.str y t from rx); cases q; exact PySem.W.kia_one PySem.W.kitx_str I.kIn True.intro e (fun z => nomatch z) h
  | flt y => obtain ⟨t, q⟩ := (show ∃ t, u = Value.float y t from rx); cases q; exact PySem.W.kia_one PySem.W.kitx_float I.kIn True.intro e (fun z => nomatch z) h
  | @lst a xs ea =>
    cases (show u = Value.ref a from rx)
    obtain ⟨_, _, n, _, h1⟩ := (show ObjOk X.prog X.w H s.heap a (.lst xs) from I.hok a _ ea)
    exact PySem.W.kia_one PySem.W.kitx_list I.kIn ⟨_, h1, rfl⟩ e (fun z => nomatch z) h
  | @frz a ob xs ea =>
    cases (show u = Value.ref a from rx)
    obtain ⟨_, _, _, n, _, h1⟩ := (show ObjOk X.prog X.w H s.heap a (.frz ob (.lst xs)) from I.hok a _ ea)
    exact PySem.W.kia_one PySem.W.kitx_list I.kIn ⟨_, h1, rfl⟩ e (fun z => nomatch z) h
  | @tup a xs ea =>
    cases (show u = Value.ref a from rx)
    obtain ⟨_, _, _, p⟩ := (show ObjOk X.prog X.w H s.heap a (.tup xs) from I.hok a _ ea)
    obtain ⟨o, h1, h2, _⟩ := p
    exact PySem.W.kia_one PySem.W.kitx_tuple I.kIn ⟨o, h1, h2⟩ e (fun z => nomatch z) h
  | @dK a kvs ea =>
    cases (show u = Value.ref a from rx)
    obtain ⟨_, _, vs, _, p⟩ := (show ObjOk X.prog X.w H s.heap a (.dK kvs) from I.hok a _ ea)
    obtain ⟨o, es, ep, h1, h2, _⟩ := p
    exact PySem.W.kia_one PySem.W.kitx_dict I.kIn ⟨o, h1, h2.1⟩ e (fun z => nomatch z) h
  | @dT a kvs ea =>
    cases (show u = Value.ref a from rx)
    obtain ⟨_, _, xs, _, o, es, ep, h1, h2, _⟩ := (show ObjOk X.prog X.w H s.heap a (.dT kvs) from I.hok a _ ea)
    exact PySem.W.kia_one PySem.W.kitx_dict I.kIn ⟨o, h1, h2.1⟩ e (fun z => nomatch z) h
  | @ins a C dx fs ea cl ha hn htk hm =>
    cases (show u = Value.ref a from rx)
    obtain ⟨mA, O, _⟩ := ins_get I.hok ea
    obtain ⟨od, J, _⟩ := O.look
    exact PySem.W.kia_one (PySem.W.kitx_own (cl.get _) cl.hd ha hn htk hm) I.kIn J e (fun z => nomatch z) h
end
end L2

namespace L2
open PySem PySem.Spec PyProof.Rows

/-! ### room -/
structure Room (k : Nat) (A : Around) : Prop where
  hd : A.handled = none
  dp : A.depth + 3 * k + 5 < recursionLimit
  un : A.units + 16 * k + 200 < cLine
theorem Room.mono {j k : Nat} {A : Around} (r : Room k A) (h : j ≤ k) : Room j A := ⟨r.hd, by have := r.dp; omega, by have := r.un; omega⟩
theorem Room.deeper {k : Nat} {A : Around} (r : Room (k + 1) A) (env : Env) : Room k (A.deeper env) :=
  ⟨r.hd, by have := r.dp; show A.depth + 1 + 3 * k + 5 < _; omega, by have := r.un; show A.units + 3 + 16 * k + 200 < _; omega⟩
theorem Room.in1 {k : Nat} {A : Around} (r : Room (k + 1) A) : Room k A.in1 :=
  ⟨r.hd, by have := r.dp; show A.depth + 3 * k + 5 < _; omega, by have := r.un; show A.units + 1 + 16 * k + 200 < _; omega⟩
theorem make_depth {A : Around} {C : Addr} {us : List Value} {kw : List (Str × Value)} : (A.under (.builtin "type.__call__" ⟨.ref C :: us, kw⟩)).depth = A.depth + 1 := by
  first | rfl | simp [Around.under, Code.weight, Code.isCreation, Code.isGuard, Code.isCaller, Code.frames, Code.isFrame, guardIds]
theorem make_units {A : Around} {C : Addr} {us : List Value} {kw : List (Str × Value)} : (A.under (.builtin "type.__call__" ⟨.ref C :: us, kw⟩)).units = A.units + 1 := by
  first | rfl | simp [Around.under, Code.cUnits, Code.frames, Code.isFrame]
theorem Room.make {k : Nat} {A : Around} (r : Room (k + 1) A) (C : Addr) (us : List Value) (kw : List (Str × Value)) : Room k (A.under (.builtin "type.__call__" ⟨.ref C :: us, kw⟩)) :=
  ⟨r.hd, by have := r.dp; rw [make_depth]; omega, by have := r.un; rw [make_units]; omega⟩
theorem Room.depth {k : Nat} {A : Around} (r : Room k A) : A.depth < recursionLimit := by have := r.dp; omega
theorem Room.units {k : Nat} {A : Around} (r : Room k A) : A.units + 64 < cLine := by have := r.un; omega
theorem Room.units0 {k : Nat} {A : Around} (r : Room k A) : A.units < cLine := by have := r.un; omega

/-! ### argument lists and displays -/
def tNil : TA := fun _ H Q => Q [] H
def tCons (ta : TE) (tr : TA) : TA := fun σ H Q => ta σ H fun x H1 => tr σ H1 fun xs H2 => Q (x :: xs) H2
section
variable {X : Cx} {e : Expr} {es : List Expr} {te : TE} {t : TA} {pos : Pos}
theorem pa_nil : PA X [] tNil := fun _ _ _ _ H Q I h => Calls.spliced_nil ⟨[], H, I, .nil, h⟩
theorem pa_cons (ha : PE X e te) (hr : PA X es t) (hs : starEach (e :: es) X.env = (false, eval e X.env) :: starEach es X.env := by rfl) : PA X (e :: es) (tCons te t) := by
  intro pos pins s σ H Q I h
  rw [hs]
  show wpAny _ _ (spliced ((false, eval e X.env) :: backTo pos (starEach es X.env))) _ _ s
  refine Calls.spliced_cons (thn (ha pins s σ H _ I h) fun u s1 ⟨x, H1, I1, r1, q1⟩ => ?_)
  exact thn (hr pos pins s1 σ H1 _ I1 q1) fun us s2 ⟨xs, H2, I2, r2, q2⟩ => ⟨x :: xs, H2, I2, .cons r1 r2, q2⟩

/-- a tuple, a list of written items -/
def tTup (t : TA) : TE := fun σ H Q => t σ H fun xs H1 => xs.length ≤ sizeLine ∧ ∀ p, H1 p = none → Q (.ref p) (upd H1 p (.tup xs))
def tLst (t : TA) : TE := fun σ H Q => t σ H fun xs H1 => xs.length ≤ sizeLine ∧ ∀ p, H1 p = none → Q (.ref p) (upd H1 p (.lst xs))
theorem pe_tup {x1} (h : PA X es t) : PE X (.Tuple es x1 pos) (tTup t) := by
  intro pins s σ H Q I hq
  refine wpAny_Tuple_spliced (thn (h pos pins s σ H _ I hq) fun us s1 ⟨xs, H1, I1, r, z, q⟩ => ⟨by rw [← r.length]; exact z, ?_⟩)
  have hf : H1 s1.heap.objs.size = none := I1.hok.fresh (Nat.le_refl _)
  refine ⟨.ref s1.heap.objs.size, upd H1 s1.heap.objs.size (.tup xs), I1.laid (t' := s1.toks) (fun b u e => Heap.get?_push_of_some _ e) (Nat.le_refl _) ?_, rfl, q _ hf⟩
  exact ⟨z, us, r, ⟨_, Heap.get?_push_size _ rfl, rfl, _, rfl⟩⟩
theorem pe_lst (h : PA X es t) : PE X (.List es pos) (tLst t) := by
  intro pins s σ H Q I hq
  refine wpAny_List_spliced (thn (h pos pins s σ H _ I hq) fun us s1 ⟨xs, H1, I1, r, z, q⟩ => ⟨by rw [← r.length]; exact z, ?_⟩)
  have hf : H1 s1.heap.objs.size = none := I1.hok.fresh (Nat.le_refl _)
  refine ⟨.ref s1.heap.objs.size, upd H1 s1.heap.objs.size (.lst xs), I1.laid (t' := s1.toks) (fun b u e => Heap.get?_push_of_some _ e) (Nat.le_refl _) ?_, rfl, q _ hf⟩
  exact ⟨z, us, 0, r, Heap.get?_push_size _ rfl⟩
end

/-! ### what a def promises -/
/-- a def's promise: the bound arguments in the parameters' order, the heap, the wanted end, the wanted exception -/
abbrev Sp := List V → Hp → VK → XK → Prop
/-- how an exception lies behind a call (file 08 gives it): the callers' frames, abstract heap and state ahead of the call, the wish, the exception, the state -/
abbrev CXT := List Env → Hp → Shared → XK → Value → Shared → Prop

/-- the state at a call -/
structure Env0 (P : Program) (w : World) (K : PySem.W.Frag) (mg : Str → Option Value) (base : Heap) (A : Around) (outer : List Env) (s : Shared) (H : Hp) : Prop where
  frames : A.frames = some outer
  mod : Mod K mg base
  bs : ∀ b o, base.get? b = some o → s.heap.get? b = some o ∧ H b = none
  bsz : base.objs.size ≤ s.heap.objs.size
  funs : s.heap.FunFrames base outer
  frf : ∀ b ∈ frs outer, H b = none
  hok : HOk P w H s.heap
  bare : AllBare s.gens
/-- a call's end -/
def CE (outer : List Env) (P : Program) (w : World) (H : Hp) (s : Shared) (Q : VK) (u : Value) (s' : Shared) : Prop :=
  ∃ v H', s'.os = s.os ∧ AllBare s'.gens ∧ Un (frs outer) [] H H' s.heap s'.heap ∧ HOk P w H' s'.heap ∧ RelV v u ∧ Q v H'
def CR (CX : CXT) (outer : List Env) (P : Program) (w : World) (H : Hp) (s : Shared) (Q : VK) (E : XK) (r : Result) (s' : Shared) : Prop :=
  match r with
  | .ok (.ret u) => CE outer P w H s Q u s'
  | .ok _ => False
  | .error e => CX outer H s E e s'
structure FnOk (P : Program) (w : World) (K : PySem.W.Frag) (mg : Str → Option Value) (base : Heap) (CX : CXT) (k : Nat) (f : Addr) (fd : FuncData) (ps : List Str) (sp : Sp) : Prop where
  len : ∀ vs H Q E, sp vs H Q E → vs.length = ps.length
  run : ∀ (A : Around) (outer : List Env) (s : Shared) (H : Hp) (args : Args) (us : List Value) (vs : List V) (Q : VK) (E : XK), Room k A → Env0 P w K mg base A outer s H → BindsTo s fd args (ps.zip us) → Vals vs us → sp vs H Q E →
    codeAny (model P w) A (.call (.ref f) args) (CR CX outer P w H s Q E) s
theorem FnOk.mono {P : Program} {w : World} {K : PySem.W.Frag} {mg : Str → Option Value} {base : Heap} {CX : CXT} {j k : Nat} {f : Addr} {fd : FuncData} {ps : List Str} {sp : Sp} (F : FnOk P w K mg base CX j f fd ps sp) (h : j ≤ k) :
    FnOk P w K mg base CX k f fd ps sp := ⟨F.len, fun A outer s H args us vs Q E hr => F.run A outer s H args us vs Q E (hr.mono h)⟩
/-- a weaker promise -/
theorem FnOk.imp {P : Program} {w : World} {K : PySem.W.Frag} {mg : Str → Option Value} {base : Heap} {CX : CXT} {k : Nat} {f : Addr} {fd : FuncData} {ps : List Str} {sp sp' : Sp} (F : FnOk P w K mg base CX k f fd ps sp)
    (h : ∀ vs H Q E, sp' vs H Q E → sp vs H Q E) : FnOk P w K mg base CX k f fd ps sp' :=
  ⟨fun vs H Q E q => F.len vs H Q E (h _ _ _ _ q), fun A outer s H args us vs Q E hr he hb hv hs => F.run A outer s H args us vs Q E hr he hb hv (h _ _ _ _ hs)⟩

theorem Env0.make {P : Program} {w : World} {K : PySem.W.Frag} {mg : Str → Option Value} {base : Heap} {A : Around} {outer : List Env} {s : Shared} {H : Hp} (e : Env0 P w K mg base A outer s H) (C : Addr) (us : List Value) (kw : List (Str × Value)) :
    Env0 P w K mg base (A.under (.builtin "type.__call__" ⟨.ref C :: us, kw⟩)) outer s H := ⟨by first | exact e.frames | (simpa [Around.under, Code.envs, Code.isFrame, pushEnvs] using e.frames), e.mod, e.bs, e.bsz, e.funs, e.frf, e.hok, e.bare⟩
theorem Env0.in1 {P : Program} {w : World} {K : PySem.W.Frag} {mg : Str → Option Value} {base : Heap} {A : Around} {outer : List Env} {s : Shared} {H : Hp} (e : Env0 P w K mg base A outer s H) :
    Env0 P w K mg base A.in1 outer s H := ⟨e.frames, e.mod, e.bs, e.bsz, e.funs, e.frf, e.hok, e.bare⟩

section
variable {X : Cx} {pins : List (Addr × Obj)} {σ : St} {H : Hp} {s s' : Shared}
/-- from a body: what a callee wants -/
theorem Inv.env0 (I : Inv X pins σ H s) : Env0 X.prog X.w X.K X.mg X.base X.A X.stack s H :=
  ⟨I.ok.frames, I.ok.mod, I.bs, Nat.le_trans I.ok.bsz I.sz, I.stack, I.stkFree, I.hok, I.bare⟩
/-- behind a call -/
theorem Inv.after {Q : VK} {u : Value} (I : Inv X pins σ H s) (h : CE X.stack X.prog X.w H s Q u s') : EP X pins σ Q u s' := by
  obtain ⟨v, H', os, bare, un, hok, r, q⟩ := h
  obtain ⟨hh, g, d, t, os'⟩ := s'
  obtain rfl : os' = s.os := os
  exact ⟨v, H', I.call (h' := hh) (g' := g) (d' := d) (t' := t) (ch := []) un hok bare (fun b z => absurd z (by simp)), r, q⟩
end

/-! ### calls -/
/-- f(..): the written arguments, then the defaults dvs; E: what is wanted of an exception -/
def tCall (sp : Sp) (dvs : List V) (E : XK) (t : TA) : TE := fun σ H Q => t σ H fun vs H1 => sp (vs ++ dvs) H1 Q E
/-- o.m(..) of an instance of the class at C -/
def tMeth (C : Addr) (m : Str) (sp : Sp) (dvs : List V) (E : XK) (ta : TE) (t : TA) : TE := fun σ H Q => ta σ H fun x H1 => ∃ a dx fs, x = .ref a ∧ H1 a = some (.ins C dx fs) ∧ fs.lookup m = none ∧
  t σ H1 fun vs H2 => sp (x :: (vs ++ dvs)) H2 Q E
/-- C(..): a new instance and its dict, then __init__ -/
def tMake (C : Addr) (sp : Sp) (dvs : List V) (E : XK) (t : TA) : TE := fun σ H Q => t σ H fun vs H1 => ∀ x dx, H1 x = none → H1 dx = none → dx ≠ x →
  sp (.ref x :: (vs ++ dvs)) (upd (upd H1 dx (.own x)) x (.ins C dx [])) (fun v H2 => v = .non ∧ Q (.ref x) H2) E

/-- how the parameters are bound: us the positional arguments, kw the keywords' values by name, ds the defaults that fill up -/
def Binds (K : PySem.W.Frag) (fd : FuncData) (ps : List Str) (ds : List Value) : Prop :=
  ∀ (s : Shared) (us : List Value), K.In s.heap → (us ++ ds).length = ps.length → BindsTo s fd ⟨us, []⟩ (ps.zip (us ++ ds))
/-- every parameter is given -/
theorem Binds.all {K : PySem.W.Frag} {fd : FuncData} {ps : List Str} (h : ∀ us : List Value, us.length = ps.length → bindArgs fd ⟨us, []⟩ = pure (ps.zip us)) : Binds K fd ps [] := fun s us _ hl => by
  rw [List.append_nil] at hl ⊢
  exact .of_eq (h us hl)

/-- an exception of a callee reaches what this body wants of exceptions -/
def Passes (CX : CXT) (X : Cx) (E : XK) : Prop := ∀ (pins : List (Addr × Obj)) (σ : St) (H : Hp) (s : Shared) (e : Value) (s' : Shared), Inv X pins σ H s → CX X.stack H s E e s' → X.xe e s'

section
variable {X : Cx} {CX : CXT} {k : Nat} {f C : Addr} {fd : FuncData} {ps : List Str} {sp : Sp} {dvs : List V} {ds : List Value} {E : XK} {x m : Str} {p pos apos : Pos} {e o : Expr} {es : List Expr} {ta : TE} {t : TA}

/-- the callee runs -/
theorem run_fn {pins : List (Addr × Obj)} {σ : St} {H : Hp} {s : Shared} {Q : VK} {us : List Value} {vs : List V} (F : FnOk X.prog X.w X.K X.mg X.base CX k f fd ps sp) (hr : Room k X.A) (hb : Binds X.K fd ps ds) (hd : Vals dvs ds) (hx : Passes CX X E)
    (I : Inv X pins σ H s) (r : Vals vs us) (h : sp (vs ++ dvs) H Q E) : wpAny (model X.prog X.w) X.A (call (.ref f) us) (EP X pins σ Q) X.xe s := by
  have r2 : Vals (vs ++ dvs) (us ++ ds) := r.append hd
  have hl : (us ++ ds).length = ps.length := by rw [← r2.length]; exact F.len _ _ _ _ h
  refine wpAny_call (codeAny_mono (F.run X.A X.stack s H ⟨us, []⟩ (us ++ ds) (vs ++ dvs) Q E hr I.env0 (hb s us I.kIn hl) r2 h) fun r s' hq => ?_)
  cases r with
  | error e => exact hx pins σ H s e s' I hq
  | ok fl =>
    cases fl with
    | ret u => exact I.after hq
    | next => exact False.elim hq
    | brk => exact False.elim hq
    | cont => exact False.elim hq

theorem pe_call (F : FnOk X.prog X.w X.K X.mg X.base CX k f fd ps sp) (hr : Room k X.A) (hg : Gl X x) (hm : X.mg x = some (.ref f)) (hk : PySem.W.keepIn X.K (.ref f) = true) (hb : Binds X.K fd ps ds) (hd : Vals dvs ds) (hx : Passes CX X E)
    (ha : PA X (e :: es) t) (hdb : (x == ("__debug__" : Str)) = false := by decide) (he : starEach (e :: es) X.env = (false, eval e X.env) :: starEach es X.env := by rfl) (hpl : (backTo pos (starEach es X.env)).any (·.1) = false := by rfl) :
    PE X (.Call (.Name x p) (e :: es) [] pos) (tCall sp dvs E t) := by
  intro pins s σ H Q I h
  refine wpAny_Call_Name_kw (ld_glob I hg hm ?_ hdb)
  refine PySem.W.callWith_K (h₀ := X.base) I.ok.mod.kin hk (thn (ha pos pins s σ H _ I h) fun us s1 ⟨vs, H1, I1, r, q⟩ => ⟨I1.kIn, ?_⟩) he hpl
  exact run_fn F hr hb hd hx I1 r q
theorem pe_call0 (F : FnOk X.prog X.w X.K X.mg X.base CX k f fd ps sp) (hr : Room k X.A) (hg : Gl X x) (hm : X.mg x = some (.ref f)) (hk : PySem.W.keepIn X.K (.ref f) = true) (hb : Binds X.K fd ps ds) (hd : Vals dvs ds) (hx : Passes CX X E)
    (hdb : (x == ("__debug__" : Str)) = false := by decide) : PE X (.Call (.Name x p) [] [] pos) (tCall sp dvs E tNil) := by
  intro pins s σ H Q I h
  refine wpAny_Call_Name_kw (ld_glob I hg hm ?_ hdb)
  exact PySem.W.callWith_K0 I.kIn hk (run_fn (us := []) F hr hb hd hx I .nil h)

/-- o.m(e, ..) -/
theorem pe_meth {pl : Sem Bool} (he : PE X o ta) (c : Cls X.K C) (hm : Meth X.K C m f) (F : FnOk X.prog X.w X.K X.mg X.base CX k f fd ps sp) (hr : Room k X.A) (hb : Binds X.K fd ps ds) (hd : Vals dvs ds) (hx : Passes CX X E) (ha : PA X (e :: es) t)
    (hst : starEach (e :: es) X.env = (false, eval e X.env) :: starEach es X.env := by rfl) (hpl : (backTo pos (starEach es X.env)).any (·.1) = false := by rfl)
    (ht : eval (.Call (.Attribute o m apos) (e :: es) [] pos) X.env = (do
      let ov ← eval o X.env
      standAt apos.atName
      let (f, first) ← holding [ov] (getMethod ov m pl)
      callWith pos f first (backTo pos (starEach (e :: es) X.env)) (backToKw pos (keywordEach [] X.env))) := by rfl) :
    PE X (.Call (.Attribute o m apos) (e :: es) [] pos) (tMeth C m sp dvs E ta t) := by
  intro pins s σ H Q I h
  refine PySem.W.methodCall_KW (pl := pl) (thn (he pins s σ H _ I h) fun u s1 ⟨x, H1, I1, rx, a, dx, fs, ex, ea, l, q⟩ => ?_) ht
  subst ex
  obtain rfl : u = Value.ref a := rx
  refine getmeth_ok I1 ea c hm l ?_
  refine PySem.W.callWith_K (first := [.ref a]) (h₀ := X.base) I.ok.mod.kin hm.kp (thn (ha pos pins s1 σ H1 _ I1 q) fun us s2 ⟨vs, H2, I2, r, q2⟩ => ⟨I2.kIn, ?_⟩) hst hpl
  exact run_fn (us := .ref a :: us) (vs := .ref a :: vs) F hr hb hd hx I2 (.cons rfl r) q2
/-- o.m() -/
theorem pe_meth0 {pl : Sem Bool} (he : PE X o ta) (c : Cls X.K C) (hm : Meth X.K C m f) (F : FnOk X.prog X.w X.K X.mg X.base CX k f fd ps sp) (hr : Room k X.A) (hb : Binds X.K fd ps ds) (hd : Vals dvs ds) (hx : Passes CX X E)
    (ht : eval (.Call (.Attribute o m apos) [] [] pos) X.env = (do
      let ov ← eval o X.env
      standAt apos.atName
      let (f, first) ← holding [ov] (getMethod ov m pl)
      callWith pos f first (backTo pos (starEach [] X.env)) (backToKw pos (keywordEach [] X.env))) := by rfl) :
    PE X (.Call (.Attribute o m apos) [] [] pos) (tMeth C m sp dvs E ta tNil) := by
  intro pins s σ H Q I h
  refine PySem.W.methodCall_KW (pl := pl) (thn (he pins s σ H _ I h) fun u s1 ⟨x, H1, I1, rx, a, dx, fs, ex, ea, l, q⟩ => ?_) ht
  subst ex
  obtain rfl : u = Value.ref a := rx
  refine getmeth_ok I1 ea c hm l ?_
  exact PySem.W.callWith_K0 (first := [.ref a]) I1.kIn hm.kp (run_fn (us := [.ref a]) (vs := [.ref a]) F hr hb hd hx I1 (.cons rfl .nil) q)

/-- what a class must have to be made -/
structure Mk (K : PySem.W.Frag) (C f : Addr) : Prop where
  makes : PySem.W.makesIn K C = true
  init : PySem.W.findIn K (.ref C) "__init__" = some (some (.ref f))
  fn : PySem.W.isFn K (.ref f) = true
  kp : PySem.W.keepIn K (.ref C) = true

theorem run_make {pins : List (Addr × Obj)} {σ : St} {H : Hp} {s : Shared} {Q : VK} {us : List Value} {vs : List V} (M : Mk X.K C f) (F : FnOk X.prog X.w X.K X.mg X.base CX k f fd ps sp) (hr : Room (k + 1) X.A) (hb : Binds X.K fd ps ds) (hd : Vals dvs ds)
    (hx : Passes CX X E) (I : Inv X pins σ H s) (r : Vals vs us)
    (h : ∀ x dx, H x = none → H dx = none → dx ≠ x → sp (.ref x :: (vs ++ dvs)) (upd (upd H dx (.own x)) x (.ins C dx [])) (fun v H2 => v = .non ∧ Q (.ref x) H2) E) :
    wpAny (model X.prog X.w) X.A (call (.ref C) us) (EP X pins σ Q) X.xe s := by
  have hq := h (s.heap.objs.size + 1) s.heap.objs.size (I.hok.fresh (Nat.le_succ _)) (I.hok.fresh (Nat.le_refl _)) (Nat.ne_of_lt (Nat.lt_succ_self _))
  have I2 := Inv.made (C := C) I
  have r2 : Vals (V.ref (s.heap.objs.size + 1) :: (vs ++ dvs)) (Value.ref (s.heap.objs.size + 1) :: (us ++ ds)) := .cons rfl (r.append hd)
  have hl : (Value.ref (s.heap.objs.size + 1) :: us ++ ds).length = ps.length := by
    have e := r2.length
    rw [F.len _ _ _ _ hq] at e
    exact e.symm
  refine wpAny_call (make_map (f := f) I.kIn M.makes M.init (beq_iff_eq.mp M.fn) (codeAny_mono (F.run _ X.stack _ _ ⟨Value.ref (s.heap.objs.size + 1) :: us, []⟩ (Value.ref (s.heap.objs.size + 1) :: (us ++ ds)) _ _ E (hr.make C us [])
    (I2.env0.make C us []) (hb _ (Value.ref (s.heap.objs.size + 1) :: us) I2.kIn hl) r2 hq) fun r s' hq' => ?_))
  cases r with
  | error e => exact hx pins σ _ _ e s' I2 hq'
  | ok fl =>
    cases fl with
    | ret u =>
      obtain ⟨v, H', I3, rv, ev, q3⟩ := I2.after hq'
      subst ev
      exact ⟨rv, ⟨V.ref (s.heap.objs.size + 1), H', I3, rfl, q3⟩⟩
    | next => exact False.elim hq'
    | brk => exact False.elim hq'
    | cont => exact False.elim hq'
theorem pe_make (M : Mk X.K C f) (F : FnOk X.prog X.w X.K X.mg X.base CX k f fd ps sp) (hr : Room (k + 1) X.A) (hg : Gl X x) (hm : X.mg x = some (.ref C)) (hb : Binds X.K fd ps ds) (hd : Vals dvs ds) (hx : Passes CX X E)
    (ha : PA X (e :: es) t) (hdb : (x == ("__debug__" : Str)) = false := by decide) (he : starEach (e :: es) X.env = (false, eval e X.env) :: starEach es X.env := by rfl) (hpl : (backTo pos (starEach es X.env)).any (·.1) = false := by rfl) :
    PE X (.Call (.Name x p) (e :: es) [] pos) (tMake C sp dvs E t) := by
  intro pins s σ H Q I h
  refine wpAny_Call_Name_kw (ld_glob I hg hm ?_ hdb)
  refine PySem.W.callWith_K (h₀ := X.base) I.ok.mod.kin M.kp (thn (ha pos pins s σ H _ I h) fun us s1 ⟨vs, H1, I1, r, q⟩ => ⟨I1.kIn, ?_⟩) he hpl
  exact run_make M F hr hb hd hx I1 r q
theorem pe_make0 (M : Mk X.K C f) (F : FnOk X.prog X.w X.K X.mg X.base CX k f fd ps sp) (hr : Room (k + 1) X.A) (hg : Gl X x) (hm : X.mg x = some (.ref C)) (hb : Binds X.K fd ps ds) (hd : Vals dvs ds) (hx : Passes CX X E)
    (hdb : (x == ("__debug__" : Str)) = false := by decide) : PE X (.Call (.Name x p) [] [] pos) (tMake C sp dvs E tNil) := by
  intro pins s σ H Q I h
  refine wpAny_Call_Name_kw (ld_glob I hg hm ?_ hdb)
  exact PySem.W.callWith_K0 I.kIn M.kp (run_make (us := []) M F hr hb hd hx I .nil h)
end

/-! ### keywords -/
/-- the values of the keywords, from the left -/
def PK (X : Cx) (kws : List Keyword) (t : TA) : Prop :=
  ∀ (pos : Pos) (pins : List (Addr × Obj)) (s : Shared) (σ : St) (H : Hp) (Q : List V → Hp → Prop), Inv X pins σ H s → t σ H Q → wpAny (model X.prog X.w) X.A (evalAll ((backToKw pos (keywordEach kws X.env)).map (·.2))) (AP X pins σ Q) X.xe s
section
variable {X : Cx} {CX : CXT} {k : Nat} {f C : Addr} {fd : FuncData} {ps ks : List Str} {sp : Sp} {E : XK} {x m : Str} {p pos apos kpos : Pos} {e o : Expr} {es : List Expr} {kws : List Keyword} {te ta : TE} {t tk : TA} {nm : Option Str}
theorem pk_nil : PK X [] tNil := fun _ _ _ _ H Q I h => wpAny_evalAll_nil ⟨[], H, I, .nil, h⟩
theorem pk_cons (ha : PE X e te) (hr : PK X kws t) : PK X (⟨nm, e, kpos⟩ :: kws) (tCons te t) := by
  intro pos pins s σ H Q I h
  show wpAny _ _ (evalAll ((do let v ← eval e X.env; standAt pos; pure v) :: (backToKw pos (keywordEach kws X.env)).map (·.2))) _ _ s
  refine wpAny_evalAll_cons (wpAny_bind (thn (ha pins s σ H _ I h) fun u s1 ⟨x, H1, I1, r1, q1⟩ => wpAny_bind (wpAny_standAt (wpAny_pure ?_))))
  exact thn (hr pos pins s1 σ H1 _ I1 q1) fun us s2 ⟨xs, H2, I2, r2, q2⟩ => ⟨x :: xs, H2, I2, .cons r1 r2, q2⟩

/-- how a call with keywords binds: g puts the positional values us and the keywords' values ws (names ks) in the parameters' order, defaults among them -/
structure KBinds (K : PySem.W.Frag) (fd : FuncData) (ps ks : List Str) (g : List Value → List Value → List Value) (gV : List V → List V → List V) : Prop where
  to : ∀ (s : Shared) (us ws : List Value), K.In s.heap → (g us ws).length = ps.length → BindsTo s fd ⟨us, ks.zip ws⟩ (ps.zip (g us ws))
  rel : ∀ {vs : List V} {us : List Value} {zs : List V} {ws : List Value}, Vals vs us → Vals zs ws → Vals (gV vs zs) (g us ws)
def tCallK (sp : Sp) (gV : List V → List V → List V) (E : XK) (t tk : TA) : TE := fun σ H Q => t σ H fun vs H1 => tk σ H1 fun zs H2 => sp (gV vs zs) H2 Q E
variable {g : List Value → List Value → List Value} {gV : List V → List V → List V}
theorem run_fnk {pins : List (Addr × Obj)} {σ : St} {H : Hp} {s : Shared} {Q : VK} {us ws : List Value} {vs zs : List V} (F : FnOk X.prog X.w X.K X.mg X.base CX k f fd ps sp) (hr : Room k X.A) (hb : KBinds X.K fd ps ks g gV) (hx : Passes CX X E)
    (I : Inv X pins σ H s) (r : Vals vs us) (rz : Vals zs ws) (h : sp (gV vs zs) H Q E) : wpAny (model X.prog X.w) X.A (call (.ref f) us (ks.zip ws)) (EP X pins σ Q) X.xe s := by
  have r2 := hb.rel r rz
  have hl : (g us ws).length = ps.length := by rw [← r2.length]; exact F.len _ _ _ _ h
  refine wpAny_call (codeAny_mono (F.run X.A X.stack s H ⟨us, ks.zip ws⟩ (g us ws) (gV vs zs) Q E hr I.env0 (hb.to s us ws I.kIn hl) r2 h) fun r s' hq => ?_)
  cases r with
  | error e => exact hx pins σ H s e s' I hq
  | ok fl =>
    cases fl with
    | ret u => exact I.after hq
    | next => exact False.elim hq
    | brk => exact False.elim hq
    | cont => exact False.elim hq
/-- f(e, .., k = v, ..) -/
theorem pe_callK (F : FnOk X.prog X.w X.K X.mg X.base CX k f fd ps sp) (hr : Room k X.A) (hg : Gl X x) (hm : X.mg x = some (.ref f)) (hk : PySem.W.keepIn X.K (.ref f) = true) (hb : KBinds X.K fd ps ks g gV) (hx : Passes CX X E)
    (ha : PA X (e :: es) t) (hkw : PK X kws tk) (hall : (backToKw pos (keywordEach kws X.env)).all (·.1.isSome) = true := by rfl) (hks : (backToKw pos (keywordEach kws X.env)).filterMap (·.1) = ks := by rfl)
    (hdb : (x == ("__debug__" : Str)) = false := by decide) (he : starEach (e :: es) X.env = (false, eval e X.env) :: starEach es X.env := by rfl)
    (hpl : ((backTo pos (starEach (e :: es) X.env)).any (·.1) || (backToKw pos (keywordEach kws X.env)).any (·.1.isNone)) = false := by rfl) :
    PE X (.Call (.Name x p) (e :: es) kws pos) (tCallK sp gV E t tk) := by
  intro pins s σ H Q I h
  refine wpAny_Call_Name_kw (ld_glob I hg hm ?_ hdb)
  refine PySem.W.callWith_KW (h₀ := X.base) I.ok.mod.kin hk hall (thn (ha pos pins s σ H _ I h) fun us s1 ⟨vs, H1, I1, r, q⟩ => ?_) hpl he
  refine thn (hkw pos pins s1 σ H1 _ I1 q) fun ws s2 ⟨zs, H2, I2, rz, q2⟩ => ⟨I2.kIn, ?_⟩
  rw [hks]
  exact run_fnk F hr hb hx I2 r rz q2
end

/-! ### a def's body keeps its promise -/
/-- names: the parameters first -/
structure FnScope (N P : List Str) (sc : Scope) : Prop where
  kind : sc.kind = .function
  co : sc.isCoroutine = false
  gen : sc.isGenerator = false
  nd : N.Nodup
  pre : N.take P.length = P
  par : ∀ x ∈ P, sc.names.lookup x = some .local ∨ sc.names.lookup x = some .cell
  nofree : ∀ y ∈ sc.names, y.2 ≠ .free

theorem bindL_out {kindOf : Str → Option NameKind} {x : Str} : ∀ {binds : List (Str × Value)} {m : Str → Option Value}, (∀ v, (x, v) ∉ binds) → bindL kindOf binds m x = m x
  | [], _, _ => rfl
  | (n, v) :: r, m, h => by
    unfold bindL
    rw [bindL_out fun w hw => h w (List.mem_cons_of_mem _ hw)]
    split
    · have : x ≠ n := by rintro rfl; exact h v List.mem_cons_self
      simp [this]
    · rfl
theorem bindC_out {kindOf : Str → Option NameKind} {x : Str} : ∀ {binds : List (Str × Value)} {m : Str → Option Value}, (∀ v, (x, v) ∉ binds) → bindC kindOf binds m x = m x
  | [], _, _ => rfl
  | (n, v) :: r, m, h => by
    unfold bindC
    rw [bindC_out fun w hw => h w (List.mem_cons_of_mem _ hw)]
    split
    · rfl
    · have : x ≠ n := by rintro rfl; exact h v List.mem_cons_self
      simp [this]
theorem bindL_get {kindOf : Str → Option NameKind} {x : Str} {v : Value} : ∀ {P : List Str} {vs : List Value} {i : Nat} {m : Str → Option Value}, P.Nodup → P[i]? = some x → vs[i]? = some v → kindOf x = some .local →
    bindL kindOf (P.zip vs) m x = some v
  | [], _, _, _, _, h, _, _ => by simp at h
  | _ :: _, [], _, _, _, _, h, _ => by simp at h
  | p :: P, w :: vs, 0, m, nd, h1, h2, hk => by
    simp at h1 h2; subst h1; subst h2
    show bindL kindOf ((p, w) :: P.zip vs) m p = _
    unfold bindL
    rw [bindL_out fun v hv => (List.nodup_cons.mp nd).1 (List.of_mem_zip hv).1, if_pos hk]
    simp
  | p :: P, w :: vs, i + 1, m, nd, h1, h2, hk => by
    show bindL kindOf ((p, w) :: P.zip vs) m x = _
    unfold bindL
    exact bindL_get (i := i) (List.nodup_cons.mp nd).2 (by simpa using h1) (by simpa using h2) hk
theorem bindC_get {kindOf : Str → Option NameKind} {x : Str} {v : Value} : ∀ {P : List Str} {vs : List Value} {i : Nat} {m : Str → Option Value}, P.Nodup → P[i]? = some x → vs[i]? = some v → kindOf x ≠ some .local →
    bindC kindOf (P.zip vs) m x = some v
  | [], _, _, _, _, h, _, _ => by simp at h
  | _ :: _, [], _, _, _, _, h, _ => by simp at h
  | p :: P, w :: vs, 0, m, nd, h1, h2, hk => by
    simp at h1 h2; subst h1; subst h2
    show bindC kindOf ((p, w) :: P.zip vs) m p = _
    unfold bindC
    rw [bindC_out fun v hv => (List.nodup_cons.mp nd).1 (List.of_mem_zip hv).1, if_neg hk]
    simp
  | p :: P, w :: vs, i + 1, m, nd, h1, h2, hk => by
    show bindC kindOf ((p, w) :: P.zip vs) m x = _
    unfold bindC
    exact bindC_get (i := i) (List.nodup_cons.mp nd).2 (by simpa using h1) (by simpa using h2) hk

/-- the names' values at the entry -/
def start (N : List Str) (vs : List V) : St := vs.map some ++ List.replicate (N.length - vs.length) none

/-- the context of a def's body, at its entry; an exception leaves the frame, then lies as CX says -/
def cxOf (CX : CXT) (P : Program) (w : World) (K : PySem.W.Frag) (mg : Str → Option Value) (base : Heap) (N : List Str) (qual : Str) (scope : Scope) (f : Addr) (cd : Value) (A : Around) (outer : List Env) (s : Shared) (H : Hp) (E : XK) : Cx where
  prog := P
  w := w
  K := K
  mg := mg
  base := base
  A := A.deeper (envOfC qual scope s.heap.objs.size f cd)
  N := N
  s₀ := s
  H₀ := H
  env := envOfC qual scope s.heap.objs.size f cd
  outer := outer
  stack := envOfC qual scope s.heap.objs.size f cd :: outer
  ex := []
  calm := true
  fn := fun _ => true
  pn := []
  xe := fun e s' => wpAny (model P w) (A.deeper (envOfC qual scope s.heap.objs.size f cd)) (leaving (envOfC qual scope s.heap.objs.size f cd) e) (fun _ s'' => CX outer H s E e s'') (fun e' s'' => CX outer H s E e' s'') s'

theorem cell_has {sc : Scope} {n : Nat} {x : Str} (h : sc.names.lookup x = some .cell) : ∃ c, (cellsFrom n sc.names []).lookup x = some c := by
  have q := PySem.W.cellsFrom_some sc.names n [] (.inl h)
  exact Option.isSome_iff_exists.mp q

theorem inv_start {CX : CXT} {P : Program} {w : World} {K : PySem.W.Frag} {mg : Str → Option Value} {base : Heap} {N ps : List Str} {qual : Str} {scope : Scope} {f : Addr} {cd : Value} {A : Around} {outer : List Env} {s s1 : Shared} {H : Hp} {E : XK} {us : List Value} {vs : List V}
    (S : FnScope N ps scope) (hd : A.handled = none) (e0 : Env0 P w K mg base A outer s H) (hl : vs.length = ps.length) (r : Vals vs us)
    (x : InCallC s s.heap.objs.size (bindL (envOfC qual scope s.heap.objs.size f cd).kindOf (ps.zip us) fun _ => none) (cellsFrom (s.heap.objs.size + 1) scope.names []) (bindC (envOfC qual scope s.heap.objs.size f cd).kindOf (ps.zip us) fun _ => none) s1) :
    Inv (cxOf CX P w K mg base N qual scope f cd A outer s H E) [] (start N vs) H s1 := by
  have hpl : ps.length ≤ N.length := by have := congrArg List.length S.pre; rw [List.length_take] at this; omega
  obtain ⟨h1, tk, rfl, hk⟩ := x.done
  have noA : ∀ b : Addr, b ∉ (cxOf CX P w K mg base N qual scope f cd A outer s H E).ex := fun b z => absurd (show b ∈ ([] : List Addr) from z) (by simp)
  refine ⟨⟨e0.mod, S.kind, rfl, rfl, Nat.le_refl _, fun y z c h1 h2 => ?_, fun y hy => ?_, fun y c _ h => ?_, fun _ => hd, Around.frames_deeper e0.frames, .inr ⟨rfl, rfl⟩, fun b z => absurd z (noA b), e0.bs, e0.bsz, fun b _ _ => noA b, fun b z => absurd z (noA b), e0.funs, e0.frf⟩,
    rfl, e0.bare, Un.kept hk, ⟨_, x.toInCall.ns, fun i y v h1 h2 h3 => ?_⟩, fun y c h => ⟨_, x.cell y c h⟩, e0.hok.fresh (Nat.le_refl _), fun y c h => ?_, fun p hp => absurd (show p ∈ ([] : List (Addr × Obj)) from hp) (by simp), e0.hok.kept hk, ?_⟩
  · exact name_of_addr x.apart (PySem.mem_of_lookup h1) (PySem.mem_of_lookup h2)
  · have hy : scope.names.lookup y = some .cell ∨ scope.names.lookup y = some .free := hy
    rcases hy with hy | hy
    · exact cell_has hy
    · exact absurd rfl (S.nofree _ (PySem.mem_of_lookup hy))
  · exact Nat.le_of_lt (x.above y c (PySem.mem_of_lookup h))
  · have hi : i < vs.length := by
      unfold start at h2
      by_cases hi : i < vs.length
      · exact hi
      · rw [List.getElem?_append_right (by simpa using hi)] at h2
        rw [List.getElem?_replicate] at h2
        split at h2 <;> cases h2
    have ha : vs[i]? = some v := by
      unfold start at h2
      rw [List.getElem?_append_left (by simpa using hi), List.getElem?_map] at h2
      cases e : vs[i]? with
      | none => rw [e] at h2; cases h2
      | some a => rw [e] at h2; cases h2; rfl
    obtain ⟨u, hu, rv⟩ := r.get ha
    have hp : ps[i]? = some y := by
      rw [← S.pre, List.getElem?_take_of_lt (by omega)]; exact h1
    have ndP : ps.Nodup := by rw [← S.pre]; exact S.nd.sublist (List.take_sublist _ _)
    refine ⟨u, rv, ?_⟩
    rcases S.par y (List.mem_of_getElem? hp) with k | k
    · exact .inl ⟨k, bindL_get ndP hp hu k⟩
    · obtain ⟨c, e⟩ := cell_has (n := s.heap.objs.size + 1) k
      refine .inr ⟨.inl k, c, e, ?_⟩
      have q := x.cell y c e
      rw [bindC_get ndP hp hu (by show scope.names.lookup y ≠ _; rw [k]; decide)] at q
      exact q
  · exact e0.hok.fresh (Nat.le_of_lt (x.above y c (PySem.mem_of_lookup h)))
  · unfold start
    show _ = N.length
    rw [List.length_append, List.length_map, List.length_replicate]
    omega

/-- THE RULE: a def (or a method) of the text, by its body. The body's reading t is chosen for each entry; it is run at the parameters' values -/
theorem fn_of {CX : CXT} {P : Program} {w : World} {K : PySem.W.Frag} {mg : Str → Option Value} {base : Heap} {k : Nat} {f : Addr} {name qual : Str} {params : Arguments} {body : List Stmt} {scope : Scope} {dV kV doc pm cdv ct oc : Value} {an od : Option Addr}
    {osl : Array (Option Value)} {N ps : List Str} {sp : Sp} (lk : K.lookup f = some ⟨oc, od, .func (PySem.W.fnOf name qual params body scope dV kV doc pm an cdv ct), osl⟩) (hcd : PySem.W.codeIn K cdv qual = true) (S : FnScope N ps scope)
    (len : ∀ vs H Q E, sp vs H Q E → vs.length = ps.length)
    (hbody : ∀ (A : Around) (outer : List Env) (s : Shared) (H : Hp) (vs : List V) (Q : VK) (E : XK), Room k (A.deeper (envOfC qual scope s.heap.objs.size f cdv)) → sp vs H Q E →
      ∃ t, PSs (cxOf CX P w K mg base N qual scope f cdv A outer s H E) body t ∧ t { nx := fun _ H' => Q .non H', rt := Q } (start N vs) H) :
    FnOk P w K mg base CX (k + 1) f (PySem.W.fnOf name qual params body scope dV kV doc pm an cdv ct) ps sp := by
  refine ⟨len, fun A outer s H args us vs Q E hr e0 hb r hsp => ?_⟩
  have hl := len _ _ _ _ hsp
  have KX : K.In s.heap := e0.mod.kin.keeps fun b o e => (e0.bs b o e).1
  have lim : s.heap.NoLimit := e0.mod.nolimit.keeps fun b o e => (e0.bs b o e).1
  have hkind : ∀ y ∈ ps.zip us, scope.names.lookup y.1 = some .local ∨ (scope.names.lookup y.1 = some .cell ∧ ((cellsFrom (s.heap.objs.size + 1) scope.names []).lookup y.1).isSome = true) := fun ⟨n, v⟩ hy => by
    rcases S.par n (List.of_mem_zip hy).1 with q | q
    · exact .inl q
    · exact .inr ⟨q, PySem.W.cellsFrom_some _ _ _ (.inl q)⟩
  refine codeAny_call_function hr.depth (KX _ _ lk) rfl S.co S.gen rfl (PySem.W.codeRec_of KX hcd) (hb _ _ _ _ ?_)
  refine wpAny_newFunctionEnv_cells S.kind hkind fun env he s1 x => ?_
  subst he
  refine ⟨lim.keeps x.toInCall.keep, codeAny_func ?_⟩
  obtain ⟨t, ht, hq⟩ := hbody A outer s H vs Q E (hr.deeper _) hsp
  have I : Inv (cxOf CX P w K mg base N qual scope f cdv A outer s H E) [] (start N vs) H s1 := inv_start S hr.hd e0 hl r x
  refine wpAny_mono (ht [] s1 (start N vs) H _ I hq) (fun fl s' hs => ?_) fun e s' hs => hs
  have fin : ∀ {σ' : St} {H' : Hp} {v : V} {u : Value}, Inv (cxOf CX P w K mg base N qual scope f cdv A outer s H E) [] σ' H' s' → RelV v u → Q v H' → CE outer P w H s Q u s' :=
    fun {σ' H' v u} J rv q => ⟨v, H', J.os, J.bare, J.base, J.hok, rv, q⟩
  cases fl with
  | ret u =>
    obtain ⟨v, σ', H', J, rv, q⟩ := hs
    exact fin J rv q
  | next =>
    obtain ⟨σ', H', J, q⟩ := hs
    exact fin (v := V.non) (u := Value.none) J rfl q
  | brk =>
    obtain ⟨_, _, _, q⟩ := hs
    exact False.elim q
  | cont =>
    obtain ⟨_, _, _, q⟩ := hs
    exact False.elim q
end L2

namespace L2
open PySem PySem.Spec PyProof.Rows
section
variable {X : Cx} {x : Str} {p pos : Pos} {e : Expr} {es : List Expr} {t : TA} {id T : String} {r : List V → Hp → VK → Prop}

def tCB (r : List V → Hp → VK → Prop) (t : TA) : TE := fun σ H Q => t σ H fun vs H1 => r vs H1 Q
/-- f(e, ..), f a built-in function -/
theorem pe_callB (hc : CallR X (.builtin id) r) (hg : Gl X x) (hm : X.mg x = none) (hv : bootBuiltins x = some (.builtin id)) (ha : PA X (e :: es) t) (hn : x ≠ "__name__" := by decide) (hdb : (x == ("__debug__" : Str)) = false := by decide)
    (he : starEach (e :: es) X.env = (false, eval e X.env) :: starEach es X.env := by rfl) (hpl : (backTo pos (starEach es X.env)).any (·.1) = false := by rfl) : PE X (.Call (.Name x p) (e :: es) [] pos) (tCB r t) := by
  intro pins s σ H Q I h
  refine wpAny_Call_Name_kw (ld_blt I hg hm hv ?_ hn hdb)
  exact PyProof.Rows.callWith_builtin1 (thn (ha pos pins s σ H _ I h) fun us s1 ⟨vs, H1, I1, r1, q1⟩ => hc pins s1 σ H1 vs us Q I1 r1 q1) he hpl
/-- T(e, ..), T a built-in type -/
theorem pe_callTy (hc : CallR X (.type T) r) (hg : Gl X x) (hm : X.mg x = none) (hv : bootBuiltins x = some (.type T)) (ha : PA X (e :: es) t) (hn : x ≠ "__name__" := by decide) (hdb : (x == ("__debug__" : Str)) = false := by decide)
    (he : starEach (e :: es) X.env = (false, eval e X.env) :: starEach es X.env := by rfl) (hpl : (backTo pos (starEach es X.env)).any (·.1) = false := by rfl) : PE X (.Call (.Name x p) (e :: es) [] pos) (tCB r t) := by
  intro pins s σ H Q I h
  refine wpAny_Call_Name_kw (ld_blt I hg hm hv ?_ hn hdb)
  exact PyProof.Rows.callWith_type1 (thn (ha pos pins s σ H _ I h) fun us s1 ⟨vs, H1, I1, r1, q1⟩ => hc pins s1 σ H1 vs us Q I1 r1 q1) he hpl
/-- T() -/
theorem pe_callTy0 (hc : CallR X (.type T) r) (hg : Gl X x) (hm : X.mg x = none) (hv : bootBuiltins x = some (.type T)) (hn : x ≠ "__name__" := by decide) (hdb : (x == ("__debug__" : Str)) = false := by decide) :
    PE X (.Call (.Name x p) [] [] pos) (tCB r tNil) := by
  intro pins s σ H Q I h
  refine wpAny_Call_Name_kw (ld_blt I hg hm hv ?_ hn hdb)
  exact PyProof.Rows.callWith_type0 (hc pins s σ H [] [] Q I .nil h)
end
end L2

namespace HT
open PySem PyProof.Rows

/-- t < u of tuples of ints -/
def lexLt : List Int → List Int → Bool
  | [], [] => false
  | [], _ :: _ => true
  | _ :: _, [] => false
  | x :: xs, y :: ys => if x = y then lexLt xs ys else decide (x < y)
theorem lexLt_cons (x y : Int) (xs ys : List Int) : lexLt (x :: xs) (y :: ys) = if x = y then lexLt xs ys else decide (x < y) := rfl
theorem lexLt_nil_nil : lexLt [] [] = false := rfl
theorem lexLt_nil_cons (y : Int) (ys : List Int) : lexLt [] (y :: ys) = true := rfl
theorem lexLt_cons_nil (x : Int) (xs : List Int) : lexLt (x :: xs) [] = false := rfl

theorem eqAt_int (A : Around) (s : Shared) (a : Int) (t : Tok) (c : Int) (u : Tok) : ∃ e, SeqAt.EqAt A s (.int a t) (.int c u) e ∧ (e = true ↔ a = c) :=
  ⟨(a == c), SeqAt.EqAt.int_int a t c u, by simp⟩
theorem rcLt_int (A : Around) (s : Shared) (a : Int) (t : Tok) (c : Int) (u : Tok) (prog : Program) (w : World) (E : Value → Shared → Prop) (Q : Value → Shared → Prop) (h : Q (.bool (decide (a < c))) s) :
    wpAny (model prog w) A (richCompare .Lt (.int a t) (.int c u)) Q E s :=
  (PyProof.Rows.lt_int h : wpAny (model prog w) A (compareOp .Lt (.int a t) (.int c u)) Q E s)

section
open PySem.SeqAt
open PySem.AutoSeq1 (wpAny_loadPart')
open PySem.MeetsSeq PySem.MeetsSeq2 PySem.MeetsSeq3

theorem tuple_lt_ints (l b : Addr) (items items2 : Array Value) (n n2 : Nat) (dd dd2 : Option Addr) (sl sl2 : Array (Option Value)) (ns ms : List Int) (hi : IntsAre items.toList ns) (hj : IntsAre items2.toList ms) :
    Meets (Builtin.«tuple.__lt__» ⟨[.ref l, .ref b], []⟩)
      (fun _ R s => s.heap.get? l = some { cls := .type "tuple", dict := dd, data := .seq items n, slots := sl } ∧ s.heap.get? b = some { cls := .type "tuple", dict := dd2, data := .seq items2 n2, slots := sl2 } ∧
        R (.ok (.ret (.bool (lexLt ns ms)))) s) :=
  .of_wp fun prog w A R s h => by
    obtain ⟨hp, g, d, tk, os⟩ := s; obtain ⟨hl, hb, h⟩ := h
    have f2 := AutoSeq1.sub_tuple_tuple
    have z1 : items.size = ns.length := by rw [← hi.length]; simp
    have z2 : items2.size = ms.length := by rw [← hj.length]; simp
    wp_walk using wpAny_loadPart' hl, wpAny_loadPart' hb, wpAny_forIn_list _ (fun rest b s' => b.1 = none ∧ s' = ⟨hp, g, d, tk, os⟩ ∧ ∃ (vs ws : List Value) (ns' ms' : List Int), rest = vs.zip ws ∧
      IntsAre vs ns' ∧ IntsAre ws ms' ∧ ns'.length + items2.size = ms'.length + items.size ∧ R (.ok (.ret (.bool (lexLt ns' ms')))) ⟨hp, g, d, tk, os⟩) _
    case turn =>
      rintro ⟨y, x⟩ rest b s' ⟨hb', rfl, vs, ws, ns', ms', hz, hvi, hwi, hlen, hR⟩
      cases hvi with
      | nil => rw [List.zip_nil_left] at hz; cases hz
      | cons a t hvi' =>
        cases hwi with
        | nil => rw [List.zip_nil_right] at hz; cases hz
        | cons c u hwi' =>
          rw [List.zip_cons_cons] at hz
          injection hz with hyx hrest
          injection hyx with hy hx
          subst hy hx
          rw [lexLt_cons] at hR
          simp only [List.length_cons] at hlen
          obtain ⟨e, he, hiff⟩ := eqAt_int A.in1 ⟨hp, g, d, tk, os⟩ a t c u
          refine wpAny_bind (he prog w _ _ ?_)
          cases e with
          | true =>
            rw [if_pos (hiff.mp rfl)] at hR
            wp_walk
            exact ⟨rfl, rfl, _, _, _, _, hrest, hvi', hwi', by omega, hR⟩
          | false =>
            rw [if_neg (fun q => absurd (hiff.mpr q) Bool.false_ne_true)] at hR
            have hri := rcLt_int A.in1 ⟨hp, g, d, tk, os⟩ a t c u prog w
            wp_walk using hri
            exact ⟨_, rfl, by simpa using hR⟩
    case fin =>
      rintro ⟨b1, b2⟩ s' ⟨hb', rfl, vs, ws, ns', ms', hz, hvi, hwi, hlen, hR⟩
      simp only at hb'
      subst hb'
      have hv : lexLt ns' ms' = decide (items.size < items2.size) := by
        cases hvi with
        | nil =>
          cases hwi with
          | nil =>
            simp only [List.length_nil] at hlen
            rw [lexLt_nil_nil]
            exact (decide_eq_false (by omega)).symm
          | cons c u hw =>
            simp only [List.length_nil, List.length_cons] at hlen
            rw [lexLt_nil_cons]
            exact (decide_eq_true (by omega)).symm
        | cons a t hv =>
          cases hwi with
          | nil =>
            simp only [List.length_nil, List.length_cons] at hlen
            rw [lexLt_cons_nil]
            exact (decide_eq_false (by omega)).symm
          | cons c u hw =>
            rw [List.zip_cons_cons] at hz
            cases hz
      rw [hv] at hR
      wp_walk
      exact ⟨_, rfl, by simpa [Builtin.Tuple.tupleCompareSizes] using hR⟩
    case h =>
      exact ⟨rfl, rfl, items.toList, items2.toList, ns, ms, rfl, hi, hj, by omega, h⟩
end

section
variable {prog : Program} {w : World} {A : Around} {E : Value → Shared → Prop} {s : Shared}

theorem lt_tupInts {l b : Addr} {items items2 : Array Value} {ns ms : List Int} {Q : Value → Shared → Prop} (hl : IsTup s.heap l items) (hb : IsTup s.heap b items2) (hi : IntsAre items.toList ns) (hj : IntsAre items2.toList ms)
    (hu : A.units < cLine) (h : Q (.bool (lexLt ns ms)) s) : wpAny (model prog w) A (compareOp .Lt (.ref l) (.ref b)) Q E s := by
  obtain ⟨⟨cls, dd, data, sl⟩, ho, hc, n, hd⟩ := id hl
  obtain ⟨⟨cls2, dd2, data2, sl2⟩, ho2, hc2, n2, hd2⟩ := id hb
  simp only at hc hd hc2 hd2
  subst hc hd hc2 hd2
  exact richCompare_meets_room (op := .Lt) ⟨_, ho, rfl⟩ ⟨_, ho2, rfl⟩ PySem.F.slot_tuple_lt PySem.F.entry_tuple_lt (PySem.F.args_tuple_lt_2 _ _) (tuple_lt_ints l b items items2 n n2 dd dd2 sl sl2 ns ms hi hj)
    ⟨ho, ho2, show Value.bool (lexLt ns ms) ≠ Value.notImplemented ∧ Q (.bool (lexLt ns ms)) s from ⟨(fun x => nomatch x), h⟩⟩ hu

/-- t + u, t not empty -/
theorem cat_tup {t b : Addr} {vs ws : List Value} {Q : Value → Shared → Prop} (ht : IsTup s.heap t vs.toArray) (hb : IsTup s.heap b ws.toArray) (hv : vs ≠ [])
    (h1 : ws = [] → Q (.ref t) s) (h2 : ws ≠ [] → Q (.ref s.heap.objs.size) { s with heap := s.heap.push { cls := .type "tuple", data := .seq (vs ++ ws).toArray } })
    (hsz : vs.length + ws.length ≤ sizeLine) : wpAny (model prog w) A (binaryOp .Add (.ref t) (.ref b)) Q E s := by
  obtain ⟨⟨cls, dd, data, sl⟩, ho, hc, n, hd⟩ := id ht
  obtain ⟨⟨cls2, dd2, data2, sl2⟩, ho2, hc2, n2, hd2⟩ := id hb
  simp only at hc hd hc2 hd2
  subst hc hd hc2 hd2
  have e : vs.toArray ++ ws.toArray = (vs ++ ws).toArray := by simp
  by_cases hw : ws = []
  · exact concat_meets ⟨_, ho, rfl⟩ ⟨_, ho2, rfl⟩ noFill_tuple_add seq_tuple_add PySem.F.slot_tuple_add PySem.F.entry_tuple_add (PySem.F.args_tuple_add_2 _ _)
      (tuple_addW1 t b vs.toArray ws.toArray n n2 dd dd2 sl sl2 (by simpa using hv) (by simp [hw])) ⟨ho, ho2, h1 hw⟩
  · refine concat_meets ⟨_, ho, rfl⟩ ⟨_, ho2, rfl⟩ noFill_tuple_add seq_tuple_add PySem.F.slot_tuple_add PySem.F.entry_tuple_add (PySem.F.args_tuple_add_2 _ _)
      (tuple_addW2 t b vs.toArray ws.toArray n n2 dd dd2 sl sl2 (by simpa using hv) (by simpa using hw) (by rw [List.size_toArray, List.size_toArray]; exact hsz)) ⟨ho, ho2, ?_⟩
    rw [e]
    exact h2 hw

/-! ### t[a:b], not the whole -/
/-- a slice's bound as a place among n (d where it is left out) -/
def sIx (n d : Nat) : Option Int → Nat
  | none => d
  | some v => if v < 0 then (v + (n : Int)).toNat else min v.toNat n
theorem sIx_none (n d : Nat) : sIx n d none = d := rfl
theorem sIx_nat (n d k : Nat) : sIx n d (some (k : Int)) = min k n := by
  show (if (k : Int) < 0 then ((k : Int) + (n : Int)).toNat else min (k : Int).toNat n) = min k n
  rw [if_neg (by omega), Int.toNat_natCast]
theorem sIx_le (n d : Nat) (hd : d ≤ n) (o : Option Int) : sIx n d o ≤ n := by
  cases o with
  | none => exact hd
  | some v =>
    show (if v < 0 then (v + (n : Int)).toNat else min v.toNat n) ≤ n
    by_cases hv : v < 0
    · rw [if_pos hv]; omega
    · rw [if_neg hv]; exact Nat.min_le_right _ _
theorem clip_eq (v : Int) (n d : Nat) : (if v < 0 then max (v + (n : Int)) 0 else min v (n : Int)) = ((sIx n d (some v) : Nat) : Int) := by
  show (if v < 0 then max (v + (n : Int)) 0 else min v (n : Int)) = (((if v < 0 then (v + (n : Int)).toNat else min v.toNat n) : Nat) : Int)
  by_cases hv : v < 0
  · simp only [if_pos hv]; omega
  · simp only [if_neg hv]; omega
theorem adjust_gen (lo hi : Option Int) (n : Nat) : Builtin.Slice.sliceAdjust lo hi 1 (n : Int) = (((sIx n 0 lo : Nat) : Int), ((sIx n n hi : Nat) : Int)) := by
  have h1 : ¬ ((1 : Int) < 0) := by omega
  unfold Builtin.Slice.sliceAdjust
  simp only [h1, if_false]
  refine Prod.ext ?_ ?_
  · cases lo with
    | none => rfl
    | some v => exact clip_eq v n 0
  · cases hi with
    | none => rfl
    | some v => exact clip_eq v n n
theorem places_gen (i j : Nat) : Builtin.Slice.slicePlaces (i : Int) (j : Int) 1 = j - i := by
  unfold Builtin.Slice.slicePlaces
  have h1 : (1 : Int) > 0 := by omega
  simp only [h1, if_true, Int.ediv_one]
  split <;> omega
theorem slicePart_ {v : Value} {o : Option Int} {Q : Option Int → Shared → Prop} (p : IsPart v o) (h : Q o s) : wpAny (model prog w) A (Builtin.Slice.slicePartIndex v) Q E s := by
  cases p with
  | none => exact slicePart_none h
  | int i t => exact slicePart_int h
theorem sliceApplied_gen {sl : Addr} {vl vu : Value} {lo hi : Option Int} {n : Nat} {Q : Int × Int × Nat → Shared → Prop} (hs : s.heap.IsSliceOf sl vl vu .none) (pl : IsPart vl lo) (pu : IsPart vu hi)
    (h : Q (((sIx n 0 lo : Nat) : Int), 1, sIx n n hi - sIx n 0 lo) s) : wpAny (model prog w) A (Builtin.Slice.sliceApplied (.ref sl) (pure (n : Int))) Q E s := by
  obtain ⟨os, hos, hcs, hds⟩ := id hs
  unfold Builtin.Slice.sliceApplied Builtin.Slice.sliceFields
  refine wpAny_bind (wpAny_bind (wpAny_field hos hds (x := vl) rfl (wpAny_bind (wpAny_field hos hds (x := vu) rfl (wpAny_bind (wpAny_field hos hds (x := .none) rfl (wpAny_pure ?_)))))))
  refine wpAny_bind (slicePart_none ?_)
  show wpAny _ _ (if ((1 : Int) == 0) = true then _ else _) _ _ s
  rw [if_neg (by decide)]
  refine wpAny_bind (slicePart_ pl (wpAny_bind (slicePart_ pu (wpAny_bind (wpAny_pure ?_)))))
  show wpAny _ _ (match Builtin.Slice.sliceAdjust lo hi 1 (n : Int) with | (lo, hi) => pure (lo, (1 : Int), Builtin.Slice.slicePlaces lo hi 1)) _ _ s
  rw [adjust_gen lo hi n]
  show wpAny _ _ (pure (((sIx n 0 lo : Nat) : Int), (1 : Int), Builtin.Slice.slicePlaces ((sIx n 0 lo : Nat) : Int) ((sIx n n hi : Nat) : Int) 1)) _ _ s
  rw [places_gen]
  exact wpAny_pure h
theorem pick_gen (xs : Array Value) (i k : Nat) : ((List.range k).filterMap fun (m : Nat) => xs[((i : Int) + (m : Int) * 1).toNat]?).toArray = ((xs.toList.drop i).take k).toArray := by
  have e : (fun (m : Nat) => xs[((i : Int) + (m : Int) * 1).toNat]?) = fun m => xs[i + m]? := by
    funext m
    have : ((i : Int) + (m : Int) * 1).toNat = i + m := by omega
    rw [this]
  rw [e]
  have := pick_run xs i k
  rw [List.filterMap_map] at this
  have e2 : ((fun x => xs[x]?) ∘ fun x => i + x) = fun m => xs[i + m]? := rfl
  rw [e2] at this
  rw [this]

theorem getItem_tuple_cut {t sl : Addr} {items : Array Value} {vl vu : Value} {lo hi : Option Int} {Q : Value → Shared → Prop} (ht : IsTup s.heap t items) (hs : s.heap.IsSliceOf sl vl vu .none) (pl : IsPart vl lo) (pu : IsPart vu hi)
    (hw : ¬ (sIx items.size 0 lo = 0 ∧ sIx items.size items.size hi = items.size))
    (h : Q (.ref s.heap.objs.size) { s with heap := s.heap.push { cls := .type "tuple", data := .seq ((items.toList.drop (sIx items.size 0 lo)).take (sIx items.size items.size hi - sIx items.size 0 lo)).toArray } })
    (hsz : items.size ≤ sizeLine) : wpAny (model prog w) A (getItem (.ref t) (.ref sl)) Q E s := by
  have htake : sizeOk (.seq ((items.toList.drop (sIx items.size 0 lo)).take (sIx items.size items.size hi - sIx items.size 0 lo)).toArray) := by
    show ((items.toList.drop (sIx items.size 0 lo)).take (sIx items.size items.size hi - sIx items.size 0 lo)).toArray.size ≤ sizeLine
    rw [List.size_toArray, List.length_take, List.length_drop, Array.length_toList]
    omega
  have hj : sIx items.size items.size hi ≤ items.size := sIx_le _ _ (Nat.le_refl _) hi
  obtain ⟨os, hos, hcs, hds⟩ := id hs
  have hTs : s.TypeIs (.ref sl) "slice" := ⟨os, hos, hcs⟩
  unfold getItem
  try with_reducible refine wpAny_holding ?_
  first | refine wpAny_bind (wpAny_pure ?_) | skip
  refine wpAny_bind (wpAny_sequenceKey ht.typeIs (by decide) ?_)
  refine wpAny_bind (wpAny_callSpecial?_slot (name := Str.ofString "__getitem__") ht.typeIs PyProof.Rows.slot_tuple_getitem
    (wpAny_call_entry PyProof.Rows.slot_tuple_getitem ht.typeIs entry_tuple_getitem ?_ (args_tuple_getitem _ _)))
  show wpAny _ _ (Builtin.Tuple.tupleItemsOf (.ref t) >>= _) _ _ s
  refine wpAny_bind (tupleItemsOf_ ht ?_)
  refine wpAny_bind (wpAny_typeOf hTs ?_)
  rw [if_pos (by decide)]
  refine wpAny_bind (sliceApplied_gen hs pl pu ?_)
  have hno : ¬ ((((sIx items.size 0 lo : Nat) : Int) == 0 && (1 : Int) == 1 && (sIx items.size items.size hi - sIx items.size 0 lo) == items.size) = true) := by
    intro q
    rw [Bool.and_eq_true, Bool.and_eq_true] at q
    have q1 : ((sIx items.size 0 lo : Nat) : Int) = 0 := eq_of_beq q.1.1
    have q2 : sIx items.size items.size hi - sIx items.size 0 lo = items.size := eq_of_beq q.2
    exact hw ⟨by omega, by omega⟩
  show wpAny _ _ (if (((sIx items.size 0 lo : Nat) : Int) == 0 && (1 : Int) == 1 && (sIx items.size items.size hi - sIx items.size 0 lo) == items.size) = true then _ else _) _ _ s
  rw [if_neg hno, pick_gen]
  first
    | exact wpAny_bind (m := Builtin.Tuple.tupleExact _) (wpAny_newObj_type (wpAny_pure ⟨_, rfl, wpAny_pure h⟩) htake)
    | exact wpAny_bind (m := Builtin.Tuple.tupleExact _) (wpAny_newObj_type (wpAny_bind (wpAny_pure (wpAny_pure ⟨_, rfl, wpAny_pure h⟩))) htake)
    | exact wpAny_bind (wpAny_bind (m := Builtin.Tuple.tupleExact _) (wpAny_newObj_type (wpAny_pure (wpAny_pure ⟨_, rfl, wpAny_pure h⟩)) htake))
    | exact wpAny_bind (wpAny_bind (m := Builtin.Tuple.tupleExact _) (wpAny_newObj_type (wpAny_pure ⟨_, rfl, wpAny_pure h⟩) htake))
end
end HT

namespace L2
open PySem PySem.Spec PyProof.Rows

/-! ### the parts of a slice -/
abbrev TO := St → Hp → (Option Int → Hp → Prop) → Prop
/-- a slice's part (left out, or an int) -/
def PO (X : Cx) (e : Option Expr) (t : TO) : Prop :=
  ∀ (pins : List (Addr × Obj)) (s : Shared) (σ : St) (H : Hp) (Q : Option Int → Hp → Prop), Inv X pins σ H s → t σ H Q →
    wpAny (model X.prog X.w) X.A (evalPart e X.env) (fun u s' => ∃ o H', Inv X pins σ H' s' ∧ IsPart u o ∧ Q o H') X.xe s
def tNoPart : TO := fun _ H Q => Q none H
def tPart (t : TE) : TO := fun σ H Q => t σ H fun x H1 => ∃ i, x = .int i ∧ Q (some i) H1

theorem intsAre_of {ns : List Int} : ∀ {us : List Value}, Vals (ns.map V.int) us → IntsAre us ns := by
  induction ns with
  | nil => intro us r; rw [List.map_nil] at r; cases r; exact .nil
  | cons n ns ih =>
    intro us r
    rw [List.map_cons] at r
    cases r with
    | cons r1 r2 =>
      obtain ⟨t, e⟩ := r1
      subst e
      exact .cons n t (ih r2)

section
variable {X : Cx} {e : Expr} {te : TE} {lo hi : Option Expr} {tl th : TO} {pos p2 : Pos}

theorem po_none : PO X none tNoPart := by
  intro pins s σ H Q I h
  rw [evalPart_none]
  exact wpAny_pure ⟨none, H, I, .none, h⟩
theorem po_some (h : PE X e te) : PO X (some e) (tPart te) := by
  intro pins s σ H Q I hw
  rw [evalPart_some]
  refine thn (h pins s σ H _ I hw) fun u s1 ⟨x, H1, I1, r1, q1⟩ => ?_
  obtain ⟨i, rfl, q⟩ := q1
  obtain ⟨t, rfl⟩ := r1
  exact ⟨some i, H1, I1, .int i t, q⟩

/-- what a slice of a value is, by values: the slice object stands at sl -/
def SlR (X : Cx) (r : V → Option Int → Option Int → Hp → VK → Prop) : Prop :=
  ∀ (pins : List (Addr × Obj)) (s : Shared) (σ : St) (H : Hp) (x : V) (v vl vu : Value) (lo hi : Option Int) (sl : Addr) (Q : VK), Inv X pins σ H s → RelV x v → s.heap.IsSliceOf sl vl vu .none → IsPart vl lo → IsPart vu hi → r x lo hi H Q →
    ∃ T id, typeLookup (.type T) "__getitem__" = pure (some (.builtin id)) ∧ s.TypeIs v T ∧ wpAny (model X.prog X.w) X.A (getItem v (.ref sl)) (EP X pins σ Q) X.xe s
theorem SlR.or {r r' : V → Option Int → Option Int → Hp → VK → Prop} (h : SlR X r) (h' : SlR X r') : SlR X (fun x lo hi H Q => r x lo hi H Q ∨ r' x lo hi H Q) := by
  intro pins s σ H x v vl vu lo hi sl Q I rx hs pl pu q
  rcases q with q | q
  · exact h pins s σ H x v vl vu lo hi sl Q I rx hs pl pu q
  · exact h' pins s σ H x v vl vu lo hi sl Q I rx hs pl pu q
def tSl (r : V → Option Int → Option Int → Hp → VK → Prop) (te : TE) (tl th : TO) : TE := fun σ H Q => te σ H fun x H1 => tl σ H1 fun l H2 => th σ H2 fun u H3 => r x l u H3 Q
/-- a[lo:hi], any a -/
theorem pe_slice {r : V → Option Int → Option Int → Hp → VK → Prop} (hr : SlR X r) (he : PE X e te) (hl : PO X lo tl) (hu : PO X hi th) : PE X (.Subscript e (.Slice lo hi none p2) pos) (tSl r te tl th) := by
  intro pins s σ H Q I h
  refine Subscript_ (thn (he pins s σ H _ I h) fun v s1 ⟨x, H1, I1, r1, q1⟩ => ?_)
  refine wpAny_Slice (thn (hl pins s1 σ H1 _ I1 q1) fun vl s2 ⟨l, H2, I2, pl, q2⟩ => thn (hu pins s2 σ H2 _ I2 q2) fun vu s3 ⟨u, H3, I3, pu, q3⟩ => ?_)
  rw [evalPart_none]
  refine wpAny_pure ?_
  have I4 : Inv X pins σ H3 { s3 with heap := s3.heap.push { cls := .type "slice", data := .fields #[vl, vu, .none] } } := I3.kept (t' := s3.toks) fun b ob q => Heap.get?_push_of_some _ q
  obtain ⟨T, id, hT, ht, hg⟩ := hr pins { s3 with heap := s3.heap.push { cls := .type "slice", data := .fields #[vl, vu, .none] } } σ H3 x v vl vu l u s3.heap.objs.size Q I4 r1 (Heap.IsSliceOf.new ..) pl pu q3
  show wpAny (model X.prog X.w) X.A (subscriptTail e (.Slice lo hi none p2) v (.ref s3.heap.objs.size)) (EP X pins σ Q) X.xe { s3 with heap := s3.heap.push { cls := .type "slice", data := .fields #[vl, vu, .none] } }
  exact tail_any (ops := [.ref s3.heap.objs.size, v]) ht hT hg (by with_unfolding_all rfl)

/-- the items of xs[lo:hi] -/
def cutV (xs : List V) (lo hi : Option Int) : List V := (xs.drop (HT.sIx xs.length 0 lo)).take (HT.sIx xs.length xs.length hi - HT.sIx xs.length 0 lo)
theorem cutV_length (xs : List V) (lo hi : Option Int) : (cutV xs lo hi).length ≤ xs.length := by
  unfold cutV
  rw [List.length_take, List.length_drop]
  omega
/-- t[lo:hi], not the whole of it (the whole would be t itself) -/
def rSlT (K : PySem.W.Frag) : V → Option Int → Option Int → Hp → VK → Prop := fun x lo hi H Q => ∃ a xs, x = .ref a ∧ SqT K H a xs ∧
  ¬ (HT.sIx xs.length 0 lo = 0 ∧ HT.sIx xs.length xs.length hi = xs.length) ∧ ∀ p, H p = none → Q (.ref p) (upd H p (.tup (cutV xs lo hi)))
theorem sl_tup : SlR X (rSlT X.K) := by
  intro pins s σ H x v vl vu lo hi sl Q I rx hs pl pu h
  obtain ⟨a, xs, rfl, hx, hw, q⟩ := h
  cases rx
  obtain ⟨its, r, ht, hz⟩ := I.tuple hx
  have hlen : its.toArray.size = xs.length := by rw [List.size_toArray]; exact r.length.symm
  refine ⟨"tuple", _, PyProof.Rows.slot_tuple_getitem.lookup, ht.typeIs, ?_⟩
  refine HT.getItem_tuple_cut ht hs pl pu (by rw [hlen]; exact hw) ?_ (by rw [hlen]; exact hz)
  rw [hlen]
  refine ⟨.ref s.heap.objs.size, _, I.laid (t' := s.toks) (o := .tup (cutV xs lo hi)) (fun b ob q => Heap.get?_push_of_some _ q) (Nat.le_refl _) ?_, rfl, q _ (I.hok.fresh (Nat.le_refl _))⟩
  exact ⟨Nat.le_trans (cutV_length xs lo hi) hz, _, (r.drop (HT.sIx xs.length 0 lo)).take (HT.sIx xs.length xs.length hi - HT.sIx xs.length 0 lo), IsTup.new _ _⟩

/-! ### t < u, t + u -/
def rLtT (K : PySem.W.Frag) : R2 := fun x y H Q => ∃ a b ns ms, x = .ref a ∧ y = .ref b ∧ SqT K H a (ns.map V.int) ∧ SqT K H b (ms.map V.int) ∧ Q (.bl (HT.lexLt ns ms)) H
theorem op_ltT (hu : X.A.units < cLine) : OpR X (compareOp .Lt) (rLtT X.K) := by
  intro pins s σ H x y v u Q I rx ry h
  obtain ⟨a, b, ns, ms, rfl, rfl, ha, hb, q⟩ := h
  cases rx
  cases ry
  obtain ⟨its, r1, p1, _⟩ := I.tuple ha
  obtain ⟨its2, r2, p2, _⟩ := I.tuple hb
  have i1 : IntsAre its.toArray.toList ns := intsAre_of r1
  have i2 : IntsAre its2.toArray.toList ms := intsAre_of r2
  exact HT.lt_tupInts p1 p2 i1 i2 hu ⟨.bl (HT.lexLt ns ms), H, I, rfl, q⟩
/-- t + u, t not empty: u empty gives t itself -/
def rCatT (K : PySem.W.Frag) : R2 := fun x y H Q => ∃ a b xs ys, x = .ref a ∧ y = .ref b ∧ SqT K H a xs ∧ SqT K H b ys ∧ xs ≠ [] ∧ xs.length + ys.length ≤ sizeLine ∧
  (ys = [] → Q (.ref a) H) ∧ (ys ≠ [] → ∀ p, H p = none → Q (.ref p) (upd H p (.tup (xs ++ ys))))
theorem Vals.nil_iff {xs : List V} {us : List Value} (r : Vals xs us) : us = [] ↔ xs = [] := by
  cases r with
  | nil => simp
  | cons _ _ => simp
theorem op_catT : OpR X (binaryOp .Add) (rCatT X.K) := by
  intro pins s σ H x y v u Q I rx ry h
  obtain ⟨a, b, xs, ys, rfl, rfl, ha, hb, hx, hz, q1, q2⟩ := h
  cases rx
  cases ry
  obtain ⟨its, r1, p1, _⟩ := I.tuple ha
  obtain ⟨its2, r2, p2, _⟩ := I.tuple hb
  refine HT.cat_tup p1 p2 (fun z => hx (r1.nil_iff.mp z)) (fun z => ⟨.ref a, H, I, rfl, q1 (r2.nil_iff.mp z)⟩) (fun z => ?_) (by rw [← r1.length, ← r2.length]; exact hz)
  refine ⟨.ref s.heap.objs.size, _, I.laid (t' := s.toks) (o := .tup (xs ++ ys)) (fun b ob q => Heap.get?_push_of_some _ q) (Nat.le_refl _) ?_, rfl, q2 (fun w => z (r2.nil_iff.mpr w)) _ (I.hok.fresh (Nat.le_refl _))⟩
  exact ⟨by rw [List.length_append]; exact hz, _, r1.append r2, IsTup.new _ _⟩
/-- tuple(t) -/
theorem call_tupleT : CallR X (.type "tuple") (fun xs H Q => ∃ a ys, xs = [.ref a] ∧ SqT X.K H a ys ∧ Q (.ref a) H) := by
  intro pins s σ H xs us Q I r h
  obtain ⟨a, ys, rfl, ha, q⟩ := h
  obtain ⟨u, rfl, ru⟩ := vals1 r
  cases ru
  obtain ⟨its, _, p1, _⟩ := I.tuple ha
  exact call_tuple_same (items := its.toArray) p1 ⟨.ref a, H, I, rfl, q⟩
end
end L2

namespace L2
open PySem PySem.Spec PyProof.Rows

/-! ### places -/
/-- the place that an index of any sign means -/
def ixN (n : Nat) (i : Int) : Option Nat := if 0 ≤ i then (if i < n then some i.toNat else none) else if -(n : Int) ≤ i then some (i + n).toNat else none
def atI {α : Type} (xs : List α) (i : Int) : Option α := (ixN xs.length i).bind fun j => xs[j]?
theorem ixN_seq {n : Nat} {i : Int} {j : Nat} (h : ixN n i = some j) : seqIndex? i n = some j ∧ j < n ∧ -(n : Int) ≤ i ∧ i < n := by
  unfold ixN at h
  by_cases h0 : 0 ≤ i
  · rw [if_pos h0] at h
    by_cases h1 : i < n
    · rw [if_pos h1] at h
      have e : i.toNat = j := Option.some.inj h
      exact ⟨by rw [seqIndex_of h0 h1, e], by omega, by omega, h1⟩
    · rw [if_neg h1] at h; cases h
  · rw [if_neg h0] at h
    by_cases h1 : -(n : Int) ≤ i
    · rw [if_pos h1] at h
      have e : (i + n).toNat = j := Option.some.inj h
      exact ⟨by rw [seqIndex_neg (by omega) h1, e], by omega, h1, by omega⟩
    · rw [if_neg h1] at h; cases h
theorem atI_get {α : Type} {xs : List α} {i : Int} {v : α} (h : atI xs i = some v) : ∃ j, seqIndex? i xs.length = some j ∧ xs[j]? = some v ∧ j < xs.length ∧ -(xs.length : Int) ≤ i ∧ i < xs.length := by
  unfold atI at h
  cases e : ixN xs.length i with
  | none => rw [e] at h; cases h
  | some j =>
    rw [e] at h
    obtain ⟨h1, h2, h3, h4⟩ := ixN_seq e
    exact ⟨j, h1, h, h2, h3, h4⟩
theorem atI_nat {α : Type} {xs : List α} {j : Nat} {v : α} (h : xs[j]? = some v) : atI xs (j : Int) = some v := by
  have hj : j < xs.length := (List.getElem?_eq_some_iff.mp h).1
  have e : ixN xs.length (j : Int) = some j := by
    unfold ixN
    rw [if_pos (by omega), if_pos (by omega)]; simp
  unfold atI; rw [e]; exact h
theorem atI_last {α : Type} (xs : List α) (v : α) : atI (xs ++ [v]) (-1) = some v := by
  have hl : (xs ++ [v]).length = xs.length + 1 := by simp
  have e : ixN (xs ++ [v]).length (-1) = some xs.length := by
    unfold ixN
    rw [hl, if_neg (by decide), if_pos (by omega)]
    congr 1
    omega
  unfold atI
  rw [e]
  show (xs ++ [v])[xs.length]? = some v
  simp

/-! ### what may be subscripted -/
/-- what stands as an index of a plain subscript -/
def PlainIx (b : Expr) : Prop := ∀ o i, subscripted b false o i = operate [o, i] (getItem o i)
/-- a subscript by values -/
def IxR (X : Cx) (r : R2) : Prop :=
  ∀ (value slice : Expr) (pins : List (Addr × Obj)) (s : Shared) (σ : St) (H : Hp) (x y : V) (v u : Value) (Q : VK), Inv X pins σ H s → RelV x v → RelV y u → r x y H Q →
    subscripted slice false v u = operate [v, u] (getItem v u) → wpAny (model X.prog X.w) X.A (subscriptTail value slice v u) (EP X pins σ Q) X.xe s
/-- a call of a builtin's method by values: the receiver, the arguments -/
def MtR (X : Cx) (id : String) (r : V → List V → Hp → VK → Prop) : Prop :=
  ∀ (pins : List (Addr × Obj)) (s : Shared) (σ : St) (H : Hp) (x : V) (xs : List V) (v : Value) (us : List Value) (Q : VK), Inv X pins σ H s → RelV x v → Vals xs us → r x xs H Q →
    wpAny (model X.prog X.w) X.A (call (.builtin id) (v :: us)) (EP X pins σ Q) X.xe s
section
variable {X : Cx} {a b : Expr} {ta tb : TE} {pos : Pos}
theorem IxR.or {r r' : R2} (h : IxR X r) (h' : IxR X r') : IxR X (fun x y H Q => r x y H Q ∨ r' x y H Q) := by
  intro value slice pins s σ H x y v u Q I rx ry q hs
  rcases q with q | q
  · exact h value slice pins s σ H x y v u Q I rx ry q hs
  · exact h' value slice pins s σ H x y v u Q I rx ry q hs
theorem MtR.or {id : String} {r r' : V → List V → Hp → VK → Prop} (h : MtR X id r) (h' : MtR X id r') : MtR X id (fun x xs H Q => r x xs H Q ∨ r' x xs H Q) := by
  intro pins s σ H x xs v us Q I rx rs q
  rcases q with q | q
  · exact h pins s σ H x xs v us Q I rx rs q
  · exact h' pins s σ H x xs v us Q I rx rs q
/-- a[b] -/
theorem pe_ix {r : R2} (hr : IxR X r) (ha : PE X a ta) (hb : PE X b tb) (hs : PlainIx b) : PE X (.Subscript a b pos) (tOp r ta tb) := by
  intro pins s σ H Q I h
  exact Subscript_ (binT ha hb I h fun v u s2 x y H2 I2 rx ry q => hr a b pins s2 σ H2 x y v u Q I2 rx ry q (hs _ _))

def rIxL (K : PySem.W.Frag) : R2 := fun x y H Q => ∃ p xs i v, x = .ref p ∧ y = .int i ∧ SqL K H p xs ∧ atI xs i = some v ∧ Q v H
def rIxT (K : PySem.W.Frag) : R2 := fun x y H Q => ∃ p xs i v, x = .ref p ∧ y = .int i ∧ SqT K H p xs ∧ atI xs i = some v ∧ Q v H
def rIxS : R2 := fun x y H Q => ∃ z i c, x = .str z ∧ y = .int i ∧ z.length ≤ sizeLine ∧ atI z.cps.toList i = some c ∧ Q (.str ⟨#[c]⟩) H
theorem ix_list : IxR X (rIxL X.K) := by
  intro value slice pins s σ H x y v u Q I rx ry h hs
  obtain ⟨p, xs, i, z, rfl, rfl, hq, he, q⟩ := h
  cases rx
  obtain ⟨t, rfl⟩ := ry
  obtain ⟨its, r, pl, hz⟩ := I.list hq
  obtain ⟨j, h1, h2, h3, h4, h5⟩ := atI_get he
  obtain ⟨w, ew, rw'⟩ := r.get h2
  have hl := r.length
  have hn := line63
  have fin : EP X pins σ Q w s := ⟨z, H, I, rw', q⟩
  by_cases h0 : 0 ≤ i
  · have hj : i.toNat = j := by
      rw [seqIndex_of h0 h5] at h1
      exact Option.some.inj h1
    exact item_listR pl.isList h0 (by omega) (by rw [hj]; simpa using ew) fin hs
  · have hj : (i + (its.toArray.size : Int)).toNat = j := by
      rw [seqIndex_neg (by omega) h4] at h1
      rw [List.size_toArray, ← hl]
      exact Option.some.inj h1
    exact subscriptTail_builtinR (x := w) pl.isList.typeIs slot_list_getitem.lookup
      (wpAny_getItem_list_neg (Q := fun r s' => r = w ∧ EP X pins σ Q r s') pl.isList (by omega) (by rw [List.size_toArray] <;> omega) (by omega) (by rw [hj]; simpa using ew) ⟨rfl, fin⟩) hs
theorem ix_tup : IxR X (rIxT X.K) := by
  intro value slice pins s σ H x y v u Q I rx ry h hs
  obtain ⟨p, xs, i, z, rfl, rfl, hq, he, q⟩ := h
  cases rx
  obtain ⟨t, rfl⟩ := ry
  obtain ⟨its, r, pl, hz⟩ := I.tuple hq
  obtain ⟨j, h1, h2, h3, h4, h5⟩ := atI_get he
  obtain ⟨w, ew, rw'⟩ := r.get h2
  have hl := r.length
  have hn := line63
  have fin : EP X pins σ Q w s := ⟨z, H, I, rw', q⟩
  exact subscriptTail_builtinR (x := w) pl.typeIs slot_tuple_getitem.lookup
    (getItem_tuple (j := j) (Q := fun r s' => r = w ∧ EP X pins σ Q r s') pl (by omega) (by omega) (by rw [List.size_toArray, ← hl]; exact h1) (by simpa using ew) ⟨rfl, fin⟩) hs
theorem ix_str : IxR X rIxS := by
  intro value slice pins s σ H x y v u Q I rx ry h hs
  obtain ⟨z, i, c, rfl, rfl, hz, he, q⟩ := h
  obtain ⟨t, rfl⟩ := rx
  obtain ⟨t', rfl⟩ := ry
  obtain ⟨j, h1, h2, h3, h4, h5⟩ := atI_get he
  have hl : z.cps.toList.length = z.length := by simp [Str.length]
  rw [hl] at h1 h4 h5
  have hn := line63
  exact tail_any (typeIs_str s z t) slot_str_getitem.lookup (getItem_str (c := c) (by
    have e1 : decide (i < -(2 ^ 63 : Int)) = false := decide_eq_false (by omega)
    have e2 : decide (i ≥ 2 ^ 63) = false := decide_eq_false (by omega)
    rw [e1, e2, Bool.or_false]) (by rw [h1]; simpa using h2) ⟨.str ⟨#[c]⟩, H, I.tok _, ⟨_, rfl⟩, q⟩) hs
/-- list, tuple or str -/
def rIx (K : PySem.W.Frag) : R2 := fun x y H Q => rIxL K x y H Q ∨ rIxT K x y H Q ∨ rIxS x y H Q
theorem ix_seq : IxR X (rIx X.K) := ix_list.or (ix_tup.or ix_str)

/-! ### xs[i] = v, any sign -/
/-- the list's object behind a store -/
theorem mapSeq_set (its : List Value) (n j : Nat) (u : Value) : Obj.mapSeq (·.setIfInBounds j u) { cls := .type "list", data := .seq its.toArray n } = { cls := .type "list", data := .seq (its.set j u).toArray n } := by
  simp [Obj.mapSeq]
theorem Inv.lst {pins : List (Addr × Obj)} {σ : St} {H : Hp} {s : Shared} {p : Addr} {xs : List V} (I : Inv X pins σ H s) (h : H p = some (.lst xs)) :
    ∃ (its : List Value) (n : Nat), Vals xs its ∧ s.heap.get? p = some { cls := .type "list", data := .seq its.toArray n } ∧ xs.length ≤ sizeLine := by
  obtain ⟨z, its, n, r, e⟩ := I.hok p _ h
  exact ⟨its, n, r, e, z⟩
/-- the list at p is written by an update of its object -/
theorem Inv.lstUpd {pins : List (Addr × Obj)} {σ : St} {H : Hp} {s : Shared} {p : Addr} {xs ys : List V} {its its' : List Value} {n n' : Nat} {f : Obj → Obj} (I : Inv X pins σ H s) (h : H p = some (.lst xs))
    (ho : s.heap.get? p = some { cls := .type "list", data := .seq its.toArray n }) (hf : f { cls := .type "list", data := .seq its.toArray n } = { cls := .type "list", data := .seq its'.toArray n' }) (r : Vals ys its') (hz : ys.length ≤ sizeLine) (t : Nat) :
    Inv X pins σ (upd H p (.lst ys)) { s with heap := s.heap.update p f, toks := t } := by
  have e : (s.heap.update p f).get? p = some { cls := .type "list", data := .seq its'.toArray n' } := by
    rw [Heap.get?_update_self f ho (by rw [hf] <;> rfl), hf]
  refine I.write (x := p) (e := p) (by rw [h]; trivial) (.inl rfl) (fun b u hb q => (Heap.get?_update_other _ _ (Ne.symm hb)).trans q) ⟨_, e⟩ ?_
  exact ⟨hz, its', n', r, e⟩
def rSetL : V → V → V → Hp → (Hp → Prop) → Prop := fun o i v H Q => ∃ p xs k j, o = .ref p ∧ i = .int k ∧ H p = some (.lst xs) ∧ ixN xs.length k = some j ∧ Q (upd H p (.lst (xs.set j v)))
theorem set_list : PSet X rSetL := by
  intro pins s σ H o i v ov iv u Q I ro ri rv h
  obtain ⟨p, xs, k, j, rfl, rfl, hp, hj, q⟩ := h
  cases ro
  obtain ⟨t, rfl⟩ := ri
  obtain ⟨its, n, r, ho, hz⟩ := I.lst hp
  obtain ⟨h1, h2, h3, h4⟩ := ixN_seq hj
  have hl := r.length
  have hn := line63
  have I' : Inv X pins σ (upd H p (.lst (xs.set j v))) { s with heap := s.heap.update p (Obj.mapSeq (·.setIfInBounds j u)) } :=
    I.lstUpd hp ho (mapSeq_set its n j u) (r.set rv j) (by rw [List.length_set]; exact hz) s.toks
  by_cases h0 : 0 ≤ k
  · have hk : k.toNat = j := by
      rw [seqIndex_of h0 h4] at h1
      exact Option.some.inj h1
    exact PySem.W.ki_setAt ho h0 (by omega) (by rw [List.size_toArray, ← hl]; exact h4) (by rw [hk]; exact ⟨_, I', q⟩)
  · have hk : (k + (its.toArray.size : Int)).toNat = j := by
      rw [seqIndex_neg (by omega) h3] at h1
      rw [List.size_toArray, ← hl]
      exact Option.some.inj h1
    exact PySem.W.ki_setBack ho (by omega) (by rw [List.size_toArray, ← hl]; exact h3) (by omega) (by rw [hk]; exact ⟨_, I', q⟩)

/-! ### slices -/
theorem slice_bounds (lo hi : Option Int) (n : Nat) : (sliceBounds lo hi none n).1 = ((HT.sIx n 0 lo : Nat) : Int) ∧ (sliceBounds lo hi none n).2.1 = ((HT.sIx n n hi : Nat) : Int) ∧ (sliceBounds lo hi none n).2.2 = 1 := by
  refine ⟨?_, ?_, rfl⟩
  · cases lo with
    | none => simp [sliceBounds, HT.sIx]
    | some i =>
      simp only [sliceBounds, HT.sIx, Option.getD_none, show (1 : Int) > 0 by decide, if_true]
      by_cases h : i < 0
      · simp only [h, if_true] <;> omega
      · simp only [h, if_false] <;> omega
  · cases hi with
    | none => simp [sliceBounds, HT.sIx]
    | some i =>
      simp only [sliceBounds, HT.sIx, Option.getD_none, show (1 : Int) > 0 by decide, if_true]
      by_cases h : i < 0
      · simp only [h, if_true] <;> omega
      · simp only [h, if_false] <;> omega
theorem slicePick_cut (its : List Value) (lo hi : Option Int) : slicePick its.toArray lo hi none = ((its.drop (HT.sIx its.length 0 lo)).take (HT.sIx its.length its.length hi - HT.sIx its.length 0 lo)).toArray := by
  obtain ⟨h1, h2, h3⟩ := slice_bounds lo hi its.toArray.size
  unfold slicePick
  rw [h1, h2, h3]
  simp only [sliceRange_one, pick_run, List.size_toArray] <;> rfl
/-- xs[lo:hi] of a list: a new list -/
def rSlL (K : PySem.W.Frag) : V → Option Int → Option Int → Hp → VK → Prop := fun x lo hi H Q => ∃ a xs, x = .ref a ∧ SqL K H a xs ∧ ∀ p, H p = none → Q (.ref p) (upd H p (.lst (cutV xs lo hi)))
theorem sl_list : SlR X (rSlL X.K) := by
  intro pins s σ H x v vl vu lo hi sl Q I rx hs pl pu h
  obtain ⟨a, xs, rfl, hx, q⟩ := h
  cases rx
  obtain ⟨its, r, ht, hz⟩ := I.list hx
  have hlen := r.length
  refine ⟨"list", _, slot_list_getitem.lookup, ht.isList.typeIs, ?_⟩
  refine wpAny_getItem_list_slice ht.isList hs pl pu .none (by simp) ?_ (by rw [List.size_toArray] <;> omega)
  rw [slicePick_cut, ← hlen]
  refine ⟨.ref s.heap.objs.size, _, I.laid (t' := s.toks) (o := .lst (cutV xs lo hi)) (fun b ob q => Heap.get?_push_of_some _ q) (Nat.le_refl _) ?_, rfl, q _ (I.hok.fresh (Nat.le_refl _))⟩
  exact ⟨Nat.le_trans (cutV_length xs lo hi) hz, _, 0, (r.drop (HT.sIx xs.length 0 lo)).take (HT.sIx xs.length xs.length hi - HT.sIx xs.length 0 lo), Heap.get?_push_size _ rfl⟩

/-! ### in, not in: flat items -/
def flatV : V → Bool
  | .non => true
  | .bl _ => true
  | .int _ => true
  | .str _ => true
  | _ => false
/-- == of flat values -/
def eqV : V → V → Bool
  | .non, .non => true
  | .bl a, .bl b => a == b
  | .bl a, .int b => (if a then 1 else 0) == b
  | .int a, .bl b => a == (if b then 1 else 0)
  | .int a, .int b => a == b
  | .str a, .str b => a == b
  | _, _ => false
theorem eqAt_V {A : Around} {s : Shared} {y x : V} {u v : Value} (ry : RelV y u) (rx : RelV x v) (fy : flatV y = true) (fx : flatV x = true) : SeqAt.EqAt A s u v (eqV y x) := by
  cases y with
  | non =>
    cases ry
    cases x with
    | non => cases rx; exact SeqAt.EqAt.same _
    | bl b => cases rx; exact SeqAt.EqAt.none_bool b
    | int b => obtain ⟨t, rfl⟩ := rx; exact SeqAt.EqAt.none_int b t
    | str b => obtain ⟨t, rfl⟩ := rx; exact SeqAt.EqAt.none_str b t
    | _ => exact absurd (show false = true from fx) Bool.false_ne_true
  | bl a =>
    cases ry
    cases x with
    | non => cases rx; exact SeqAt.EqAt.bool_none a
    | bl b => cases rx; exact SeqAt.EqAt.bool_bool a b
    | int b => obtain ⟨t, rfl⟩ := rx; exact SeqAt.EqAt.bool_int a b t
    | str b => obtain ⟨t, rfl⟩ := rx; exact SeqAt.EqAt.bool_str a b t
    | _ => exact absurd (show false = true from fx) Bool.false_ne_true
  | int a =>
    obtain ⟨t', rfl⟩ := ry
    cases x with
    | non => cases rx; exact SeqAt.EqAt.int_none a t'
    | bl b => cases rx; exact SeqAt.EqAt.int_bool a t' b
    | int b => obtain ⟨t, rfl⟩ := rx; exact SeqAt.EqAt.int_int a t' b t
    | str b => obtain ⟨t, rfl⟩ := rx; exact SeqAt.EqAt.int_str a t' b t
    | _ => exact absurd (show false = true from fx) Bool.false_ne_true
  | str a =>
    obtain ⟨t', rfl⟩ := ry
    cases x with
    | non => cases rx; exact SeqAt.EqAt.str_none a t'
    | bl b => cases rx; exact SeqAt.EqAt.str_bool a t' b
    | int b => obtain ⟨t, rfl⟩ := rx; exact SeqAt.EqAt.str_int a t' b t
    | str b => obtain ⟨t, rfl⟩ := rx; exact SeqAt.EqAt.str_str a t' b t
    | _ => exact absurd (show false = true from fx) Bool.false_ne_true
  | _ => exact absurd (show false = true from fy) Bool.false_ne_true
/-- the items' answers, read off the values (a value's own answer does not lean on its token) -/
def eqU (x : V) (u : Value) : Bool := match u with
  | .none => eqV .non x
  | .bool b => eqV (.bl b) x
  | .int i _ => eqV (.int i) x
  | .str z _ => eqV (.str z) x
  | _ => false
theorem eqU_of {x y : V} {u : Value} (r : RelV y u) (f : flatV y = true) : eqU x u = eqV y x := by
  cases y with
  | non => cases r; rfl
  | bl b => cases r; rfl
  | int i => obtain ⟨t, rfl⟩ := r; rfl
  | str z => obtain ⟨t, rfl⟩ := r; rfl
  | _ => exact absurd (show false = true from f) Bool.false_ne_true
theorem any_eqU {x : V} : ∀ {xs : List V} {us : List Value}, Vals xs us → xs.all flatV = true → us.any (eqU x) = xs.any fun y => eqV y x
  | _, _, .nil, _ => rfl
  | y :: xs, u :: us, .cons r t, f => by
    rw [List.all_cons, Bool.and_eq_true] at f
    rw [List.any_cons, List.any_cons, eqU_of r f.1, any_eqU t f.2]
theorem mem_eqAt {A : Around} {s : Shared} {x : V} {v : Value} (rx : RelV x v) (fx : flatV x = true) : ∀ {xs : List V} {us : List Value}, Vals xs us → xs.all flatV = true → ∀ u ∈ us, SeqAt.EqAt A s u v (eqU x u)
  | _, _, .nil, _ => fun u hu => by cases hu
  | y :: xs, u :: us, .cons r t, f => fun u' hu => by
    rw [List.all_cons, Bool.and_eq_true] at f
    rcases List.mem_cons.mp hu with rfl | hu
    · rw [eqU_of r f.1]; exact eqAt_V r rx f.1 fx
    · exact mem_eqAt rx fx t f.2 u' hu
def inV (x : V) (xs : List V) : Bool := xs.any fun y => eqV y x
/-- x in a list or tuple of flat items -/
def rIn (K : PySem.W.Frag) (neg : Bool) : R2 := fun x y H Q => ∃ p xs, y = .ref p ∧ (SqL K H p xs ∨ SqT K H p xs) ∧ flatV x = true ∧ xs.all flatV = true ∧ Q (.bl (if neg then !inV x xs else inV x xs)) H
theorem op_in_seq : OpR X (compareOp .In) (rIn X.K false) := by
  intro pins s σ H x y v u Q I rx ry h
  obtain ⟨p, xs, rfl, hq, fx, fs, q⟩ := h
  cases ry
  rcases hq with hq | hq
  · obtain ⟨its, r, pl, hz⟩ := I.list hq
    refine SeqAt.in_listAt (eqU x) pl.isList (fun w hw => mem_eqAt rx fx r fs w (by simpa using hw)) ⟨.bl _, H, I, rfl, ?_⟩
    rw [show its.toArray.any (eqU x) = its.any (eqU x) by simp, any_eqU r fs]
    exact q
  · obtain ⟨its, r, pl, hz⟩ := I.tuple hq
    refine SeqAt.in_tupleAt (eqU x) pl (fun w hw => mem_eqAt rx fx r fs w (by simpa using hw)) ⟨.bl _, H, I, rfl, ?_⟩
    rw [show its.toArray.any (eqU x) = its.any (eqU x) by simp, any_eqU r fs]
    exact q
theorem op_notIn_seq : OpR X (compareOp .NotIn) (rIn X.K true) := by
  intro pins s σ H x y v u Q I rx ry h
  obtain ⟨p, xs, rfl, hq, fx, fs, q⟩ := h
  cases ry
  rcases hq with hq | hq
  · obtain ⟨its, r, pl, hz⟩ := I.list hq
    refine SeqAt.notIn_listAt (eqU x) pl.isList (fun w hw => mem_eqAt rx fx r fs w (by simpa using hw)) ⟨.bl _, H, I, rfl, ?_⟩
    rw [show its.toArray.any (eqU x) = its.any (eqU x) by simp, any_eqU r fs]
    exact q
  · obtain ⟨its, r, pl, hz⟩ := I.tuple hq
    refine SeqAt.notIn_tupleAt (eqU x) pl (fun w hw => mem_eqAt rx fx r fs w (by simpa using hw)) ⟨.bl _, H, I, rfl, ?_⟩
    rw [show its.toArray.any (eqU x) = its.any (eqU x) by simp, any_eqU r fs]
    exact q
theorem op_notIn_str : OpR X (compareOp .NotIn) (fun x y H Q => ∃ i j, x = .str i ∧ y = .str j ∧ Q (.bl (!(!(Builtin.Str.occurrences j i 0 j.length 1).isEmpty))) H) := by
  intro pins s σ H x y v u Q I rx ry h
  obtain ⟨i, j, rfl, rfl, q⟩ := h
  obtain ⟨t, rfl⟩ := rx
  obtain ⟨t', rfl⟩ := ry
  exact notIn_str ⟨.bl _, H, I, rfl, q⟩

/-! ### len, list(x), tuple(x) of any list or tuple that is read -/
theorem call_len_seq : CallR X (.builtin "len") (fun xs H Q => ∃ p ys, xs = [.ref p] ∧ (SqL X.K H p ys ∨ SqT X.K H p ys) ∧ Q (.int ys.length) H) := by
  intro pins s σ H xs us Q I r h
  obtain ⟨p, ys, rfl, hq, q⟩ := h
  obtain ⟨u, rfl, rx⟩ := vals1 r
  cases rx
  have hn := line63
  rcases hq with hq | hq
  · obtain ⟨its, r', pl, hz⟩ := I.list hq
    have hlen := r'.length
    exact Calls.call_len_list pl.isList (by simp only [List.size_toArray] <;> omega) ⟨.int ys.length, H, I.tok _, ⟨s.toks + 1, by rw [List.size_toArray, hlen]⟩, q⟩
  · obtain ⟨its, r', pl, hz⟩ := I.tuple hq
    have hlen := r'.length
    exact len_tuple pl (by simp only [List.size_toArray] <;> omega) ⟨.int ys.length, H, I.tok _, ⟨s.toks + 1, by rw [List.size_toArray, hlen]⟩, q⟩
theorem call_len_str : CallR X (.builtin "len") (fun xs H Q => ∃ z, xs = [.str z] ∧ z.length ≤ sizeLine ∧ Q (.int z.length) H) := by
  intro pins s σ H xs us Q I r h
  obtain ⟨z, rfl, hz, q⟩ := h
  obtain ⟨u, rfl, t, rfl⟩ := vals1 r
  have hn := line63
  exact len_str (by omega) ⟨.int z.length, H, I.tok _, ⟨_, rfl⟩, q⟩
theorem CallR.or {f : Value} {r r' : List V → Hp → VK → Prop} (h : CallR X f r) (h' : CallR X f r') : CallR X f (fun xs H Q => r xs H Q ∨ r' xs H Q) := by
  intro pins s σ H xs us Q I rs q
  rcases q with q | q
  · exact h pins s σ H xs us Q I rs q
  · exact h' pins s σ H xs us Q I rs q
theorem call_list_of : CallR X (.type "list") (fun xs H Q => ∃ p ys, xs = [.ref p] ∧ (SqL X.K H p ys ∨ SqT X.K H p ys) ∧ ∀ l, H l = none → Q (.ref l) (upd H l (.lst ys))) := by
  intro pins s σ H xs us Q I r h
  obtain ⟨p, ys, rfl, hq, q⟩ := h
  obtain ⟨u, rfl, rx⟩ := vals1 r
  cases rx
  have fin : ∀ (its : List Value), Vals ys its → ys.length ≤ sizeLine → ∀ (h' : Heap) (c' : Nat), (∀ b o', s.heap.get? b = some o' → h'.get? b = some o') →
      h'.get? s.heap.objs.size = some { cls := .type "list", dict := none, data := .seq its.toArray c', slots := #[] } → EP X pins σ Q (.ref s.heap.objs.size) { s with heap := h' } := fun its r' hz h' c' kp e =>
    ⟨.ref s.heap.objs.size, _, I.laid (t' := s.toks) kp (Nat.le_refl _) (show ObjOk X.prog X.w _ h' _ (.lst ys) from ⟨hz, its, c', r', e⟩), rfl, q _ (I.hok.fresh (Nat.le_refl _))⟩
  rcases hq with hq | hq
  · obtain ⟨its, r', pl, hz⟩ := I.list hq
    have hlen := r'.length
    obtain ⟨o, ho, hc, n, hd⟩ := pl.isList
    exact call_list_seq p (.inl rfl) ho hc hd (fun h' c' kp e => fin its r' hz h' c' kp e) (by simp only [List.size_toArray] <;> omega)
  · obtain ⟨its, r', pl, hz⟩ := I.tuple hq
    have hlen := r'.length
    obtain ⟨o, ho, hc, n, hd⟩ := pl
    exact call_list_seq p (.inr rfl) ho hc hd (fun h' c' kp e => fin its r' hz h' c' kp e) (by simp only [List.size_toArray] <;> omega)
theorem call_tuple_of : CallR X (.type "tuple") (fun xs H Q => ∃ p ys, xs = [.ref p] ∧ ((SqL X.K H p ys ∧ ∀ l, H l = none → Q (.ref l) (upd H l (.tup ys))) ∨ (SqT X.K H p ys ∧ Q (.ref p) H))) := by
  intro pins s σ H xs us Q I r h
  obtain ⟨p, ys, rfl, h⟩ := h
  obtain ⟨u, rfl, rx⟩ := vals1 r
  cases rx
  rcases h with ⟨hq, q⟩ | ⟨hq, q⟩
  · obtain ⟨its, r', pl, hz⟩ := I.list hq
    have hlen := r'.length
    refine call_tuple_list pl.isList (fun h' kp => ?_) (by simp only [List.size_toArray] <;> omega)
    have I1 : Inv X pins σ H { s with heap := h' } := I.kept (t' := s.toks) kp
    have I2 : Inv X pins σ (upd H h'.objs.size (.tup ys)) { s with heap := h'.push { cls := .type "tuple", data := .seq its.toArray } } :=
      I1.laid (t' := s.toks) (fun b o e => Heap.get?_push_of_some _ e) (Nat.le_refl _) (show ObjOk X.prog X.w _ _ _ (.tup ys) from ⟨hz, its, r', IsTup.new _ _⟩)
    exact ⟨.ref h'.objs.size, _, I2, rfl, q _ (I1.hok.fresh (Nat.le_refl _))⟩
  · obtain ⟨its, r', pl, hz⟩ := I.tuple hq
    exact call_tuple_same pl ⟨.ref p, H, I, rfl, q⟩

/-! ### the call of a builtin's method: o.m(..) -/
/-- the value is of that builtin type -/
def tyV (K : PySem.W.Frag) (T : String) (x : V) (H : Hp) : Prop := match x with
  | .str _ => T = "str"
  | .int _ => T = "int"
  | .ref p => (T = "list" ∧ ∃ xs, SqL K H p xs) ∨ (T = "tuple" ∧ ∃ o, K.lookup p = some o ∧ o.cls = .type "tuple" ∧ o.dict = none) ∨
      (T = "dict" ∧ ((∃ kvs, H p = some (.dK kvs)) ∨ ∃ kvs, H p = some (.dT kvs))) ∨ (T = "set" ∧ ∃ S n, H p = some (.set S n))
  | _ => False
theorem tyV_is {pins : List (Addr × Obj)} {σ : St} {H : Hp} {s : Shared} {T : String} {x : V} {v : Value} (I : Inv X pins σ H s) (r : RelV x v) (ty : tyV X.K T x H) :
    s.TypeIs v T ∧ ∀ a, v = .ref a → ∃ ob, s.heap.get? a = some ob ∧ ob.dict = none := by
  cases x with
  | str z =>
    obtain ⟨t, rfl⟩ := r
    cases (show T = "str" from ty)
    exact ⟨typeIs_str s z t, fun _ e => nomatch e⟩
  | int i =>
    obtain ⟨t, rfl⟩ := r
    cases (show T = "int" from ty)
    exact ⟨typeIs_int s i t, fun _ e => nomatch e⟩
  | ref p =>
    cases r
    rcases ty with ⟨rfl, xs, hq⟩ | ⟨rfl, o, hk, hc, hd⟩ | ⟨rfl, hk⟩ | ⟨rfl, S, n, hk⟩
    · obtain ⟨its, _, pl, _⟩ := I.list hq
      refine ⟨pl.isList.typeIs, fun a e => ?_⟩
      cases e
      obtain ⟨o, n, e, c, hd, _⟩ := pl
      exact ⟨o, e, hd⟩
    · refine ⟨⟨o, I.kIn p o hk, hc⟩, fun a e => ?_⟩
      cases e
      exact ⟨o, I.kIn _ o hk, hd⟩
    · have z : ∃ o, s.heap.get? p = some o ∧ o.ExactDict := by
        rcases hk with ⟨kvs, hk⟩ | ⟨kvs, hk⟩
        · obtain ⟨_, _, _, _, o, _, _, e, ex, _⟩ := I.hok p _ hk
          exact ⟨o, e, ex⟩
        · obtain ⟨_, _, _, _, o, _, _, e, ex, _⟩ := I.hok p _ hk
          exact ⟨o, e, ex⟩
      obtain ⟨o, e, ex⟩ := z
      refine ⟨⟨o, e, ex.1⟩, fun a e2 => ?_⟩
      cases e2
      exact ⟨o, e, ex.2.1⟩
    · obtain ⟨o, _, _, _, e, ex, _⟩ := I.hok p _ hk
      refine ⟨⟨o, e, ex.1⟩, fun a e2 => ?_⟩
      cases e2
      exact ⟨o, e, ex.2.1⟩
  | _ => exact False.elim ty
def tBM0 (K : PySem.W.Frag) (T : String) (r : V → List V → Hp → VK → Prop) (to : TE) : TE := fun σ H Q => to σ H fun x H1 => tyV K T x H1 ∧ r x [] H1 Q
def tBM (K : PySem.W.Frag) (T : String) (r : V → List V → Hp → VK → Prop) (to : TE) (t : TA) : TE := fun σ H Q => to σ H fun x H1 => tyV K T x H1 ∧ t σ H1 fun xs H2 => r x xs H2 Q
variable {o e : Expr} {es : List Expr} {to : TE} {t : TA} {name : Str} {apos cpos : Pos} {T id : String} {r : V → List V → Hp → VK → Prop}
theorem pe_bm0 (pa : PlainAttrs T) (slot : Slot T name id) (hty : typeOf (.builtin id) = pure (.type "method_descriptor")) (hm : MtR X id r) (ho : PE X o to)
    (hbase : attributeBase o name X.env (eval o X.env) = eval o X.env := by rfl) (hline : (apos.endLine == cpos.line) = true := by rfl) : PE X (.Call (.Attribute o name apos) [] [] cpos) (tBM0 X.K T r to) := by
  intro pins s σ H Q I h
  refine wpAny_Call_method0_late hbase hline (thn (ho pins s σ H _ I h) fun v s1 ⟨x, H1, I1, r1, ty, q1⟩ => ?_)
  obtain ⟨h1, h2⟩ := tyV_is I1 r1 ty
  exact ⟨T, id, pa, slot, hty, h1, h2, Calls.callWith_builtin rfl (PySem.evalArgs_none (hm pins s1 σ H1 x [] v [] Q I1 r1 .nil q1))⟩
theorem pe_bm (pa : PlainAttrs T) (slot : Slot T name id) (hty : typeOf (.builtin id) = pure (.type "method_descriptor")) (hm : MtR X id r) (ho : PE X o to) (ha : PA X (e :: es) t)
    (hbase : attributeBase o name X.env (eval o X.env) = eval o X.env := by rfl)
    (hfew : ((backTo cpos (starEach (e :: es) X.env)).all (fun x => !x.1) && (backToKw cpos (keywordEach [] X.env)).all (fun x => x.1.isSome)
      && decide ((e :: es).length + ([] : List Keyword).length + (if ([] : List Keyword).isEmpty then 0 else 1) < 30)) = true := by rfl)
    (hline : (apos.endLine == cpos.line) = true := by rfl) (hs : starEach (e :: es) X.env = (false, eval e X.env) :: starEach es X.env := by rfl) (hplain : (backTo cpos (starEach es X.env)).any (·.1) = false := by rfl) :
    PE X (.Call (.Attribute o name apos) (e :: es) [] cpos) (tBM X.K T r to t) := by
  intro pins s σ H Q I h
  refine wpAny_Call_method_late hbase hfew hline rfl (thn (ho pins s σ H _ I h) fun v s1 ⟨x, H1, I1, r1, ty, q1⟩ => ?_)
  obtain ⟨h1, h2⟩ := tyV_is I1 r1 ty
  refine ⟨T, id, pa, slot, hty, h1, h2, ?_⟩
  have hA := ha cpos pins s1 σ H1 _ I1 q1
  rw [hs] at hA ⊢
  refine Calls.callWith_builtin (by show (false || (backTo cpos (starEach es X.env)).any (·.1)) = false; rw [hplain] <;> rfl) (Calls.evalArgs_plain ?_)
  exact thn hA fun us s2 ⟨vs, H2, I2, r2, q2⟩ => hm pins s2 σ H2 x vs v us Q I2 r1 r2 q2
/- xs.append(e), list.index on a module's tuple .. are MtR facts of 06m -/
end
end L2

namespace L2
open PySem PySem.Spec PyProof.Rows

def MtM (X : Cx) (id : String) (r : V → List V → Hp → VK → Prop) : Prop :=
  ∀ (pins : List (Addr × Obj)) (s : Shared) (σ : St) (H : Hp) (x : V) (xs : List V) (v : Value) (us : List Value) (Q : VK), Inv X pins σ H s → RelV x v → Vals xs us → r x xs H Q →
    wpAny (model X.prog X.w) X.A (call (.builtin id) (v :: us)) (EP X pins σ Q) X.xe s

/-! ### lists of values -/
theorem Vals.one : ∀ {x : V} {us : List Value}, Vals [x] us → ∃ u, us = [u] ∧ RelV x u
  | _, _, .cons r .nil => ⟨_, rfl, r⟩
theorem Vals.two : ∀ {x y : V} {us : List Value}, Vals [x, y] us → ∃ u v, us = [u, v] ∧ RelV x u ∧ RelV y v
  | _, _, _, .cons r (.cons q .nil) => ⟨_, _, rfl, r, q⟩
theorem Vals.zero : ∀ {us : List Value}, Vals [] us → us = []
  | _, .nil => rfl
theorem Vals.dropLast {xs : List V} {us : List Value} (h : Vals xs us) : Vals xs.dropLast us.dropLast := by
  induction h with
  | nil => exact .nil
  | cons r t ih =>
    cases t with
    | nil => exact .nil
    | cons q t' => exact .cons r ih
theorem Vals.eraseIdx : ∀ {xs : List V} {us : List Value} (i : Nat), Vals xs us → Vals (xs.eraseIdx i) (us.eraseIdx i)
  | _, _, _, .nil => .nil
  | _, _, 0, .cons _ t => t
  | _, _, i + 1, .cons r t => .cons r (Vals.eraseIdx i t)
theorem Vals.reverse {xs : List V} {us : List Value} (h : Vals xs us) : Vals xs.reverse us.reverse := by
  induction h with
  | nil => exact .nil
  | cons r t ih => rw [List.reverse_cons, List.reverse_cons]; exact Vals.append ih (.cons r .nil)
theorem Vals.rep {xs : List V} {us : List Value} (h : Vals xs us) : ∀ k : Nat, Vals (List.replicate k xs).flatten (List.replicate k us).flatten
  | 0 => .nil
  | k + 1 => by
    rw [List.replicate_succ, List.replicate_succ, List.flatten_cons, List.flatten_cons]
    exact Vals.append h (Vals.rep h k)
theorem erase_last {α : Type} (l : List α) : l.eraseIdx (l.length - 1) = l.dropLast := by
  induction l with
  | nil => rfl
  | cons a r ih =>
    cases r with
    | nil => rfl
    | cons b r =>
      have e : (a :: b :: r).length - 1 = ((b :: r).length - 1) + 1 := by
        have h1 : (a :: b :: r).length = r.length + 2 := rfl
        have h2 : (b :: r).length = r.length + 1 := rfl
        omega
      rw [e, List.eraseIdx_cons_succ, ih]
      all_goals rfl
theorem len_erase {α : Type} : ∀ (l : List α) (i : Nat), (l.eraseIdx i).length ≤ l.length
  | [], _ => Nat.le_refl _
  | _ :: _, 0 => Nat.le_succ _
  | _ :: r, i + 1 => Nat.succ_le_succ (len_erase r i)
theorem foldl_rep (its : List Value) : ∀ (k : Nat) (acc : List Value),
    List.foldl (fun x1 x2 => x1 ++ x2) acc.toArray (List.replicate k its.toArray) = (acc ++ (List.replicate k its).flatten).toArray
  | 0, acc => by simp
  | k + 1, acc => by
    have e : acc.toArray ++ its.toArray = (acc ++ its).toArray := by simp
    have e2 : (acc ++ its) ++ (List.replicate k its).flatten = acc ++ (List.replicate (k + 1) its).flatten := by
      rw [List.replicate_succ, List.flatten_cons, List.append_assoc]
    rw [← e2, ← foldl_rep its k (acc ++ its), ← e, List.replicate_succ, List.foldl_cons]

section
variable {X : Cx} {pins : List (Addr × Obj)} {σ : St} {H : Hp} {s : Shared} {l b : Addr} {xs ys zs : List V}

/-! ### the two steps: a tracked list is rewritten, a new list is laid -/
theorem Inv.lset {its its' : List Value} {n : Nat} {f : Array Value → Array Value} {t' : Nat} (I : Inv X pins σ H s) (hH : H l = some (.lst xs))
    (e : s.heap.get? l = some { cls := .type "list", data := .seq its.toArray n }) (hf : f its.toArray = its'.toArray) (hv : Vals ys its') (hz : ys.length ≤ sizeLine) :
    Inv X pins σ (upd H l (.lst ys)) { s with heap := s.heap.update l (Obj.mapSeq f), toks := t' } := by
  have q := PySem.IsL.update e f
  rw [hf] at q
  refine I.write (x := l) (e := l) (by rw [hH]; exact trivial) (.inl rfl) (fun b' u hb hu => (Heap.get?_update_other s.heap (Obj.mapSeq f) (Ne.symm hb)).trans hu) ⟨_, q⟩ ?_
  exact ⟨hz, its', _, hv, q⟩
theorem Inv.lnew {its : List Value} {t' : Nat} (I : Inv X pins σ H s) (hv : Vals ys its) (hz : ys.length ≤ sizeLine) :
    Inv X pins σ (upd H s.heap.objs.size (.lst ys)) { s with heap := s.heap.push { cls := .type "list", data := .seq its.toArray }, toks := t' } :=
  I.laid (fun _ _ q => Heap.get?_push_of_some _ q) (Nat.le_refl _) ⟨hz, its, 0, hv, Heap.get?_push_size _ rfl⟩
theorem Inv.fresh (I : Inv X pins σ H s) : H s.heap.objs.size = none := I.hok.fresh (Nat.le_refl _)
theorem Inv.lstM (I : Inv X pins σ H s) (hH : H l = some (.lst xs)) : xs.length ≤ sizeLine ∧ ∃ (its : List Value) (n : Nat), Vals xs its ∧ xs.length = its.length ∧ s.heap.get? l = some { cls := .type "list", data := .seq its.toArray n } := by
  obtain ⟨z, its, n, r, e⟩ := I.hok l _ hH
  exact ⟨z, its, n, r, r.length, e⟩

theorem notLongL {n : Nat} (h : n ≤ sizeLine) : Builtin.List.listTooLong n = false := by
  unfold Builtin.List.listTooLong
  exact decide_eq_false (by omega)
end

section
variable {X : Cx}

/-! ### methods -/
def rAppend : V → List V → Hp → VK → Prop := fun x vs H Q => ∃ l xs y, x = .ref l ∧ vs = [y] ∧ H l = some (.lst xs) ∧ xs.length < sizeLine ∧ Q .non (upd H l (.lst (xs ++ [y])))
theorem mt_append : MtM X "list.append" rAppend := by
  intro pins s σ H x vs v us Q I rx rv h
  obtain ⟨l, xs, y, rfl, rfl, hH, hz, q⟩ := h
  cases rx
  obtain ⟨u, rfl, ru⟩ := rv.one
  obtain ⟨z, its, n, r, hl, e⟩ := I.lstM hH
  refine call_meets F.slot_list_append ⟨_, e, rfl⟩ F.entry_list_append (F.args_list_append_2 _ _) (PySem.list_append l its.toArray n u (by rw [List.size_toArray]; omega)) ⟨e, ?_⟩
  refine ⟨.non, _, I.lset (its' := its ++ [u]) hH e (by simp) (r.append (.cons ru .nil)) ?_, rfl, q⟩
  rw [List.length_append, List.length_singleton]
  omega

def rExtend : V → List V → Hp → VK → Prop := fun x vs H Q => ∃ l b xs zs, x = .ref l ∧ vs = [.ref b] ∧ H l = some (.lst xs) ∧ H b = some (.lst zs) ∧ xs.length + zs.length ≤ sizeLine ∧ Q .non (upd H l (.lst (xs ++ zs)))
theorem mt_extend : MtM X "list.extend" rExtend := by
  intro pins s σ H x vs v us Q I rx rv h
  obtain ⟨l, b, xs, zs, rfl, rfl, hH, hB, hz, q⟩ := h
  cases rx
  obtain ⟨u, rfl, ru⟩ := rv.one
  cases ru
  obtain ⟨z, its, n, r, hl, e⟩ := I.lstM hH
  obtain ⟨z2, its2, n2, r2, hl2, e2⟩ := I.lstM hB
  have hsz : its.toArray.size + its2.toArray.size ≤ sizeLine := by rw [List.size_toArray, List.size_toArray]; omega
  have hlong : ¬ (!its.toArray.isEmpty && Builtin.List.listTooLong (its.toArray.size + its2.toArray.size)) = true := by
    rw [notLongL hsz, Bool.and_false]
    exact Bool.false_ne_true
  refine call_meets F.slot_list_extend ⟨_, e, rfl⟩ F.entry_list_extend (F.args_list_extend_2 _ _)
    (AutoSeq1.list_extend_list_list_0 l its.toArray n b its2.toArray n2 hlong (by rw [List.size_toArray]; omega) (by omega)) ⟨e, e2, ?_⟩
  refine ⟨.non, _, I.lset (its' := its ++ its2) hH e (by simp) (r.append r2) ?_, rfl, q⟩
  rw [List.length_append]
  omega

def rPop : V → List V → Hp → VK → Prop := fun x vs H Q => ∃ l xs y, x = .ref l ∧ vs = [] ∧ H l = some (.lst xs) ∧ xs[xs.length - 1]? = some y ∧ Q y (upd H l (.lst xs.dropLast))
theorem mt_pop : MtM X "list.pop" rPop := by
  intro pins s σ H x vs v us Q I rx rv h
  obtain ⟨l, xs, y, rfl, rfl, hH, hy, q⟩ := h
  cases rx
  have hus := rv.zero
  subst hus
  obtain ⟨z, its, n, r, hl, e⟩ := I.lstM hH
  obtain ⟨u, hu, ru⟩ := r.get hy
  have hy' : its.toArray[its.toArray.size - 1]? = some u := by
    show its.toArray[its.length - 1]? = some u
    rw [← Array.getElem?_toList, ← hl]
    exact hu
  refine call_meets F.slot_list_pop ⟨_, e, rfl⟩ F.entry_list_pop (F.args_list_pop_1 _) (MeetsSeq.list_pop_last l its.toArray n u hy' (by rw [List.size_toArray]; omega)) ⟨e, ?_⟩
  refine ⟨y, _, I.lset (its' := its.dropLast) hH e ?_ r.dropLast ?_, ru, q⟩
  · show its.toArray.eraseIdxIfInBounds (its.toArray.size - 1) = its.dropLast.toArray
    rw [List.size_toArray, List.eraseIdxIfInBounds_toArray, erase_last]
  · rw [List.length_dropLast]
    omega

def rPopAt : V → List V → Hp → VK → Prop := fun x vs H Q => ∃ l xs i k y, x = .ref l ∧ vs = [.int i] ∧ H l = some (.lst xs) ∧ -(2 ^ 63) ≤ i ∧ i < 2 ^ 63 ∧ seqIndex? i xs.length = some k ∧ xs[k]? = some y ∧ Q y (upd H l (.lst (xs.eraseIdx k)))
theorem mt_popAt : MtM X "list.pop" rPopAt := by
  intro pins s σ H x vs v us Q I rx rv h
  obtain ⟨l, xs, i, k, y, rfl, rfl, hH, h1, h2, hk, hy, q⟩ := h
  cases rx
  obtain ⟨u, rfl, ru⟩ := rv.one
  obtain ⟨t, rfl⟩ := ru
  obtain ⟨z, its, n, r, hl, e⟩ := I.lstM hH
  obtain ⟨w, hw, rw'⟩ := r.get hy
  refine call_meets F.slot_list_pop ⟨_, e, rfl⟩ F.entry_list_pop (F.args_list_pop_2 _ _)
    (MeetsSeq.list_pop_at l its.toArray n i t k w (fitsIndex_both h1 h2) (by rw [List.size_toArray, ← hl]; exact hk) (by rw [← Array.getElem?_toList]; exact hw) (by rw [List.size_toArray]; omega)) ⟨e, ?_⟩
  refine ⟨y, _, I.lset (its' := its.eraseIdx k) hH e ?_ (r.eraseIdx k) ?_, rw', q⟩
  · show its.toArray.eraseIdxIfInBounds k = (its.eraseIdx k).toArray
    rw [List.eraseIdxIfInBounds_toArray]
  · have := len_erase xs k
    omega

def rReverse : V → List V → Hp → VK → Prop := fun x vs H Q => ∃ l xs, x = .ref l ∧ vs = [] ∧ H l = some (.lst xs) ∧ Q .non (upd H l (.lst xs.reverse))
theorem mt_reverse : MtM X "list.reverse" rReverse := by
  intro pins s σ H x vs v us Q I rx rv h
  obtain ⟨l, xs, rfl, rfl, hH, q⟩ := h
  cases rx
  have hus := rv.zero
  subst hus
  obtain ⟨z, its, n, r, hl, e⟩ := I.lstM hH
  refine call_meets F.slot_list_reverse ⟨_, e, rfl⟩ F.entry_list_reverse (F.args_list_reverse_1 _) (AutoSeq1.list_reverse_list_0 l its.toArray n (by rw [List.size_toArray]; omega)) ⟨e, ?_⟩
  refine ⟨.non, _, I.lset (its' := its.reverse) hH e (by simp) r.reverse ?_, rfl, q⟩
  rw [List.length_reverse]
  omega

def rClear : V → List V → Hp → VK → Prop := fun x vs H Q => ∃ l xs, x = .ref l ∧ vs = [] ∧ H l = some (.lst xs) ∧ Q .non (upd H l (.lst []))
theorem mt_clear : MtM X "list.clear" rClear := by
  intro pins s σ H x vs v us Q I rx rv h
  obtain ⟨l, xs, rfl, rfl, hH, q⟩ := h
  cases rx
  have hus := rv.zero
  subst hus
  obtain ⟨z, its, n, r, hl, e⟩ := I.lstM hH
  refine call_meets F.slot_list_clear ⟨_, e, rfl⟩ F.entry_list_clear (F.args_list_clear_1 _) (AutoSeq1.list_clear_list_0 l its.toArray n (by rw [List.size_toArray]; omega)) ⟨e, ?_⟩
  exact ⟨.non, _, I.lset (its' := []) (ys := []) hH e rfl .nil (Nat.zero_le _), rfl, q⟩

/-! ### list + list, list += list, list * int -/
def rCat : R2 := fun x y H Q => ∃ l b xs zs, x = .ref l ∧ y = .ref b ∧ H l = some (.lst xs) ∧ H b = some (.lst zs) ∧ xs.length + zs.length ≤ sizeLine ∧ ∀ p, H p = none → Q (.ref p) (upd H p (.lst (xs ++ zs)))
theorem op_cat : OpR X (binaryOp .Add) rCat := by
  intro pins s σ H x y v u Q I rx ry h
  obtain ⟨l, b, xs, zs, rfl, rfl, hH, hB, hz, q⟩ := h
  cases rx
  cases ry
  obtain ⟨z, its, n, r, hl, e⟩ := I.lstM hH
  obtain ⟨z2, its2, n2, r2, hl2, e2⟩ := I.lstM hB
  refine PySem.P.add_list e e2 ?_ (by rw [List.size_toArray, List.size_toArray]; omega)
  have ea : its.toArray ++ its2.toArray = (its ++ its2).toArray := by simp
  rw [ea]
  exact ⟨.ref _, _, I.lnew (t' := s.toks) (r.append r2) (by rw [List.length_append]; omega), rfl, q _ I.fresh⟩
/-- a list times an int (a negative one is nothing) -/
def rRep : R2 := fun x y H Q => ∃ l k xs, x = .ref l ∧ y = .int k ∧ H l = some (.lst xs) ∧ -(2 ^ 63) ≤ k ∧ k < 2 ^ 63 ∧ xs.length * k.toNat ≤ sizeLine ∧
  ∀ p, H p = none → Q (.ref p) (upd H p (.lst (List.replicate k.toNat xs).flatten))
theorem len_rep {α : Type} (xs : List α) (k : Nat) : (List.replicate k xs).flatten.length = k * xs.length := by
  induction k with
  | zero => simp
  | succ k ih => rw [List.replicate_succ, List.flatten_cons, List.length_append, ih, Nat.succ_mul, Nat.add_comm]
theorem op_rep : OpR X (binaryOp .Mult) rRep := by
  intro pins s σ H x y v u Q I rx ry h
  obtain ⟨l, k, xs, rfl, rfl, hH, h1, h2, hz, q⟩ := h
  cases rx
  obtain ⟨t, rfl⟩ := ry
  obtain ⟨z, its, n, r, hl, e⟩ := I.lstM hH
  have hlen : its.toArray.size * k.toNat ≤ sizeLine := by rw [List.size_toArray, ← hl]; exact hz
  have hcap : ¬ its.toArray.size * k.toNat > (2 ^ 63 - 1) / 8 := by
    have : (sizeLine : Nat) ≤ (2 ^ 63 - 1) / 8 := by decide
    omega
  have hfit : ¬ (!Builtin.List.listFitsIndex k) = true := by
    rw [fitsIndex_both h1 h2]
    exact Bool.false_ne_true
  have hlong : ¬ Builtin.List.listTooLong (its.toArray.size * k.toNat) = true := by
    rw [notLongL hlen]
    exact Bool.false_ne_true
  have hnew : List.foldl (fun x1 x2 => x1 ++ x2) #[] (List.replicate (if its.toArray.isEmpty = true then 0 else k.toNat) its.toArray) = (List.replicate k.toNat its).flatten.toArray := by
    have f0 : ∀ m : Nat, List.foldl (fun x1 x2 => x1 ++ x2) #[] (List.replicate m its.toArray) = (List.replicate m its).flatten.toArray := fun m => by
      have := foldl_rep its m []
      rw [List.nil_append] at this
      exact this
    rw [f0]
    cases its with
    | nil => simp
    | cons a r' => rw [if_neg (by simp)]
  refine wpAny_binaryOp_repeat_ref (T := "list") (U := "int") (by decide) ⟨_, e, rfl⟩ (fun s' => typeIs_int s' k t) noFill_list_mul F.fills_int_mul F.slot_int_rmul repeat_list F.slot_int_index.lookup
    (call_meets F.slot_int_rmul (typeIs_int s k t) F.entry_int_rmul (F.args_int_rmul_2 _ _) (int___rmul___int_list k t l its.toArray n)
      ⟨e, rfl, ⟨_, e, rfl⟩, call_meets F.slot_list_mul ⟨_, e, rfl⟩ F.entry_list_mul (F.args_list_mul_2 _ _) (AutoListH.list___mul___list_int_3 l its.toArray n k t hfit hcap hlong) ⟨e, ?_⟩⟩)
  rw [hnew]
  exact ⟨.ref _, _, I.lnew (t' := s.toks) (r.rep k.toNat) (by rw [len_rep, Nat.mul_comm]; exact hz), rfl, q _ I.fresh⟩

/-! ### del xs[i] -/
theorem del_list {pins : List (Addr × Obj)} {s : Shared} {σ : St} {H : Hp} {l : Addr} {xs : List V} {i : Int} {t : Tok} {k : Nat} {Q : Unit → Shared → Prop} (I : Inv X pins σ H s) (hH : H l = some (.lst xs))
    (h1 : -(2 ^ 63) ≤ i) (h2 : i < 2 ^ 63) (hk : seqIndex? i xs.length = some k) (h : ∀ s', Inv X pins σ (upd H l (.lst (xs.eraseIdx k))) s' → Q () s') :
    wpAny (model X.prog X.w) X.A (delItem (.ref l) (.int i t)) Q X.xe s := by
  obtain ⟨z, its, n, r, hl, e⟩ := I.lstM hH
  refine PySem.P.delItem_list (k := k) e (fitsIndex_both h1 h2) (by rw [List.size_toArray, ← hl]; exact hk) (h _ ?_) (by rw [List.size_toArray]; omega)
  refine I.lset (its' := its.eraseIdx k) (t' := s.toks) hH e ?_ (r.eraseIdx k) ?_
  · show its.toArray.eraseIdxIfInBounds k = (its.eraseIdx k).toArray
    rw [List.eraseIdxIfInBounds_toArray]
  · have := len_erase xs k
    omega
end

/-! ### xs[a:b] = ys -/
section
variable {prog : Program} {w : World} {A : Around} {E : Value → Shared → Prop} {s : Shared}
theorem splice_eq (its its2 : List Value) (a c : Nat) : its.toArray.extract 0 a ++ its2.toArray ++ its.toArray.extract c its.toArray.size = (its.take a ++ its2 ++ its.drop c).toArray := by
  apply Array.toList_inj.mp
  first
    | (simp
       exact List.take_of_length_le (by simp))
    | simp [List.take_of_length_le]
    | simp
theorem bounds_run {a c n : Nat} (hac : a ≤ c) (hc : c ≤ n) : sliceBounds (some (a : Int)) (some (c : Int)) none n = ((a : Int), (c : Int), 1) := by
  simp only [sliceBounds, Option.getD_none]
  have h1 : ¬ ((a : Int) < 0) := by omega
  have h2 : ¬ ((c : Int) < 0) := by omega
  simp only [h1, h2, if_false, show (1 : Int) > 0 by decide, if_true]
  congr 1
  · omega
  · congr 1; omega
set_option maxRecDepth 100000 in
/-- list.__setitem__ with a slice of step one and another list -/
theorem setItem_slice {l b sl : Addr} {items new : Array Value} {n n2 : Nat} {vl vu : Value} {a c : Nat} {Q : Unit → Shared → Prop}
    (e : s.heap.get? l = some { cls := .type "list", data := .seq items n }) (e2 : s.heap.get? b = some { cls := .type "list", data := .seq new n2 }) (hne : l ≠ b)
    (hs : s.heap.IsSliceOf sl vl vu .none) (pl : IsPart vl (some (a : Int))) (pu : IsPart vu (some (c : Int))) (hac : a ≤ c) (hc : c ≤ items.size)
    (hsz : items.size + new.size ≤ sizeLine) (h : Q () { s with heap := s.heap.update l (Obj.mapSeq fun xs => xs.extract 0 a ++ new ++ xs.extract c xs.size) }) :
    wpAny (model prog w) A (setItem (.ref l) (.ref sl) (.ref b)) Q E s := by
  have hl : s.heap.IsList l items := PySem.IsL.isList e
  have hb : s.heap.IsList b new := PySem.IsL.isList e2
  obtain ⟨os, hos, hcs, hds⟩ := id hs
  have hTs : s.TypeIs (.ref sl) "slice" := ⟨os, hos, hcs⟩
  have hstep : ¬ ((rawPart none == rawInt 0) = true) := Bool.false_ne_true
  have hsame : Builtin.List.listSameRef (.ref l) (.ref b) = false := by
    unfold Builtin.List.listSameRef
    exact beq_eq_false_iff_ne.mpr hne
  have hmax : (max (a : Int) (c : Int)).toNat = c := by omega
  have hz' : ((fun xs : Array Value => xs.extract 0 a ++ new ++ xs.extract c xs.size) items).size ≤ sizeLine + 1 := by
    simp only [Array.size_append, Array.size_extract]
    omega
  unfold setItem
  try with_reducible refine wpAny_holding ?_
  first | refine wpAny_bind (wpAny_pure ?_) | skip
  refine wpAny_bind (wpAny_sequenceKey hl.typeIs (by decide) ?_)
  refine wpAny_bind (wpAny_callSpecial?_slot (name := Str.ofString "__setitem__") hl.typeIs slot_list_setitem
    (wpAny_call_entry slot_list_setitem hl.typeIs entry_list_setitem ?_ (args_list_setitem _ _ _)))
  show wpAny _ _ (Builtin.List.listSubscript? (.ref sl) >>= _) _ _ s
  refine wpAny_bind ?_
  unfold Builtin.List.listSubscript?
  refine wpAny_bind (wpAny_specialOf hTs slice_no_index ?_)
  simp only [Option.isNone_none, if_true]
  refine wpAny_pure ?_
  show wpAny _ _ (typeOf (.ref sl) >>= _) _ _ s
  refine wpAny_bind (wpAny_typeOf hTs ?_)
  first
    | rw [if_neg (by decide)]
    | refine PySem.W.KFB.if_not (by decide) ?_
  rw [listSliceParts_eq]
  refine wpAny_bind (wpAny_bind (wpAny_field hos hds (x := .none) rfl (wpAny_bind (wpAny_listPart .none ?_))))
  rw [if_neg hstep]
  refine wpAny_bind (wpAny_field hos hds (x := vl) rfl (wpAny_bind (wpAny_listPart pl ?_)))
  refine wpAny_bind (wpAny_field hos hds (x := vu) rfl (wpAny_bind (wpAny_listPart pu (wpAny_pure ?_))))
  first
    | simp only [hsame, Bool.false_eq_true, if_false]
    | refine PySem.W.KFB.if_not hsame ?_
    | (dsimp only
       rw [if_neg (by rw [hsame]; exact Bool.false_ne_true)])
  refine wpAny_bind (m := Builtin.List.listAllItems (.ref b) "must assign iterable to extended slice") ?_
  unfold Builtin.List.listAllItems
  refine wpAny_bind (wpAny_typeOf hb.typeIs ?_)
  first
    | refine PySem.W.KFB.if_so (by decide) ?_
    | rw [if_pos (by decide)]
    | simp only [beq_self_eq_true, Bool.true_or, if_true]
  unfold Builtin.List.listItems
  refine wpAny_bind (wpAny_seqItems e2 rfl (wpAny_pure ?_))
  refine wpAny_bind (wpAny_bind (wpAny_seqItems e rfl (wpAny_pure ?_)))
  refine wpAny_bind (wpAny_of_eq ((sliceIndices_raw (some (a : Int)) (some (c : Int)) none items.size (by simp)).trans (congrArg (pure : Int × Int × Int → Sem (Int × Int × Int)) (bounds_run hac hc))) ?_)
  show wpAny _ _ (if ((1 : Int) == 1) = true then _ else _) _ _ s
  rw [if_pos (by decide)]
  refine wpAny_bind (wpAny_rule ?_)
  first
    | simp only [notLongL hsz, Bool.false_eq_true, if_false]
    | refine PySem.W.KFB.if_not (notLongL hsz) ?_
  first | refine wpAny_bind (wpAny_pure ?_) | skip
  show wpAny _ _ (updateSeq l (fun xs => xs.extract 0 ((a : Int)).toNat ++ new ++ xs.extract (max (a : Int) (c : Int)).toNat xs.size) >>= _) _ _ s
  rw [hmax, Int.toNat_natCast]
  refine wpAny_bind (wpAny_updateSeq (hz := Nat.le_trans (Nat.le_add_right _ _) hsz) (_hz' := hz') e rfl ?_)
  refine wpAny_bind (wpAny_letGo ?_)
  first
    | exact wpAny_bind (wpAny_pure (wpAny_pure ⟨.none, rfl, wpAny_pure h⟩))
    | exact wpAny_pure ⟨.none, rfl, wpAny_pure h⟩
end

section
variable {X : Cx}
/-- xs[a:c] = ys of another list, at the value level: sl is the slice object that was just made -/
theorem set_slice {pins : List (Addr × Obj)} {s : Shared} {σ : St} {H : Hp} {l b sl : Addr} {xs ys : List V} {a c : Int} {vl vu : Value} {Q : Unit → Shared → Prop} (I : Inv X pins σ H s)
    (hH : H l = some (.lst xs)) (hB : H b = some (.lst ys)) (hne : l ≠ b) (hs : s.heap.IsSliceOf sl vl vu .none) (ra : RelV (.int a) vl) (rc : RelV (.int c) vu) (h0 : 0 ≤ a) (hac : a ≤ c) (hc : c ≤ xs.length)
    (hz : xs.length + ys.length ≤ sizeLine) (h : ∀ s', Inv X pins σ (upd H l (.lst (xs.take a.toNat ++ ys ++ xs.drop c.toNat))) s' → Q () s') :
    wpAny (model X.prog X.w) X.A (setItem (.ref l) (.ref sl) (.ref b)) Q X.xe s := by
  obtain ⟨ta, rfl⟩ := ra
  obtain ⟨tc, rfl⟩ := rc
  obtain ⟨z, its, n, r, hl, e⟩ := I.lstM hH
  obtain ⟨z2, its2, n2, r2, hl2, e2⟩ := I.lstM hB
  obtain ⟨a', rfl⟩ := Int.eq_ofNat_of_zero_le h0
  obtain ⟨c', rfl⟩ := Int.eq_ofNat_of_zero_le (Int.le_trans h0 hac)
  simp only [Int.toNat_natCast] at h
  refine setItem_slice (a := a') (c := c') e e2 hne hs (.int _ _) (.int _ _) (by omega) (by rw [List.size_toArray]; omega) (by rw [List.size_toArray, List.size_toArray]; omega) (h _ ?_)
  refine I.lset (its' := its.take a' ++ its2 ++ its.drop c') (t' := s.toks) hH e ?_ (Vals.append (Vals.append (r.take _) r2) (r.drop _)) ?_
  · exact splice_eq its its2 a' c'
  · rw [List.length_append, List.length_append, List.length_take, List.length_drop]
    omega
end
end L2

namespace Att
open PySem PySem.W PySem.Calls PyProof.Rows

/-! ### the script -/
theorem ints_of_wellAll {P : Params} {h : Heap} : ∀ (ns : List Int) (vs : List Value), WellAll P h vs (ns.map WData.int) → IntsAre vs ns := by
  intro ns
  induction ns with
  | nil =>
    intro vs w
    rw [List.map_nil] at w
    cases w
    exact .nil
  | cons n ns ih =>
    intro vs w
    rw [List.map_cons] at w
    cases w with
    | cons a b =>
      cases a
      exact .cons _ _ (ih _ b)

theorem script_of {l : OpenLaw} {n : Nat} (hn : l.most = some n) {P : Params} {h : Heap} {args : List WData} {vals : List Value}
    (hpre : l.row.toRowW.claim.pre args = true) (hwl : WellAll P h vals args) :
    ∃ a vs ns, vals = [Value.ref a] ∧ args = [WData.list (ns.map WData.int)] ∧ h.get? a = some { cls := .type "list", data := .seq vs.toArray } ∧ IntsAre vs ns ∧ ns.length ≤ n := by
  have hsh : WShape.hasAll [] args [.list .int] = true := (pre_splitW hpre).1
  have hc : l.pre.holds [] { args := args } = true := (pre_splitW hpre).2
  obtain ⟨d, r, rfl, h1, h2⟩ := hasAllW_cons hsh
  obtain rfl := hasAllW_nil h2
  obtain ⟨xs, rfl, h3⟩ := hasW_list h1
  obtain ⟨ns, rfl⟩ := items_int h3
  have hlen : ns.length ≤ n := by
    unfold OpenLaw.pre at hc
    have h4 : (WTm.not (.lt (.lit (.int (n : Int))) (.len (.arg 0)))).holds [] { args := [.list (ns.map .int)] } = true := by
      have h4 := (holds_andW hc).1
      rw [hn] at h4
      exact h4
    have h5 := condW_of h4 (w_not (w_lt w_lit (w_len_list (w_arg rfl))))
    rw [List.length_map] at h5
    refine Nat.le_of_not_lt fun q => ?_
    have q' : (n : Int) < ((ns.length : Nat) : Int) := by omega
    first
      | (rw [decide_eq_true q'] at h5; exact absurd h5 (by decide))
      | (simp at h5; omega)
  cases hwl with
  | cons w1 w2 =>
    cases w2
    cases w1 with
    | list ho hall => exact ⟨_, _, ns, rfl, rfl, ho, ints_of_wellAll ns _ hall, hlen⟩

theorem post_true (l : OpenLaw) (args : List WData) : l.row.toRowW.claim.post args (.bool true) args = true :=
  postW_of (r := l.row.toRowW) (X := (true == true))
    (show WShape.has [] (.bool true) .bool = true by first | rfl | decide | simp [WShape.has, WShape.arms, WShape.armsAll])
    (show (WTm.eq .res (.lit (.bool true))).value [] { args := args, res := some (.bool true), after := args } = some (.bool (true == true)) from w_eq_bool (w_res rfl) w_lit) rfl

/-! ### the attachment: holds_open's last premise (the goal 'hc' behind k_head) from a wpAny of the law's body -/
theorem attach {l : OpenLaw} {n : Nat} {q : Program} {loose : List Str} {XP : (Str → Option Value) → Heap → Prop} {YP : World → Heap → Prop} {d : DefRec} {x : Str}
    (hn : l.most = some n) (hdf : d.params.defaults = [])
    (hbind : ∀ pm cd doc v : Value, bindArgs (docDef d.name d.params d.body d.scope pm cd doc) ⟨[v], []⟩ = pure [(x, v)])
    (hx : d.scope.names.lookup x = some .local ∨ d.scope.names.lookup x = some .cell)
    (hk : d.scope.kind = .function) (hco : d.scope.isCoroutine = false) (hgen : d.scope.isGenerator = false)
    (body : ∀ (w : World) (s₀ s₁ s : Shared) (mg mb : Str → Option Value) (fa : Addr) (o : Obj) (pm cd doc : Value) (a : Addr) (vs : List Value) (ns : List Int),
      Ground q loose [] XP w s₀ mg mb s₁.heap → YP w s₁.heap →
      s₁.heap.get? fa = some o → o.data = .func (docDef d.name d.params d.body d.scope pm cd doc) → s₁.heap.CodeRec cd d.name → mg d.name = some (.ref fa) →
      s₁.heap.get? a = some { cls := .type "list", data := .seq vs.toArray } → IntsAre vs ns → ns.length ≤ n →
      s.gens = #[] → s.os = s₁.os →
      Fr s₁.heap s₁.heap.objs.size s.heap (bindL (envOfC d.name d.scope s₁.heap.objs.size fa cd).kindOf [(x, .ref a)] fun _ => none) →
      Cl s₁.heap.objs.size (cellsFrom (s₁.heap.objs.size + 1) d.scope.names []) s.heap (bindC (envOfC d.name d.scope s₁.heap.objs.size fa cd).kindOf [(x, .ref a)] fun _ => none) →
      wpAny (model l.prog w) (callerA.deeper (envOfC d.name d.scope s₁.heap.objs.size fa cd)) (execs d.body (envOfC d.name d.scope s₁.heap.objs.size fa cd))
        (fun f s' => f = .ret (.bool true) ∧ OldK s₁.heap s'.heap ∧ s'.os = s₁.os ∧ AllBare s'.gens) (fun _ _ => False) s) :
    WalkO q loose XP YP l.row.toRowW d [] (fun f vs => PySem.call f vs) := by
  intro w s₀ s₁ mg mb G Y fa o pm cd doc dV kV ho hd hcd hD hmg hg args vals as hpre hlay hrd hwl hlo
  obtain rfl : dV = .none := Dflts.none hD hdf
  obtain rfl : kV = .none := Dflts.noKw hD
  obtain ⟨a, vs, ns, rfl, rfl, hobj, hints, hlen⟩ := script_of hn hpre hwl
  refine enter_call ?_
  refine call_cells_ret (o := o) (by rw [depth_caller]; decide) ho (fd_plain hd) G.T.nolimit hcd (hbind pm cd doc (.ref a)) (fun y hy => ?_) (fun h₁ tk F X => ?_) hco hgen hk
  · obtain rfl : y = (x, Value.ref a) := List.mem_singleton.mp hy
    rcases hx with e | e
    · exact .inl e
    · exact .inr ⟨e, cellsFrom_some _ _ _ (.inl e)⟩
  · refine wpAny_mono (body w s₀ s₁ { s₁ with heap := h₁, toks := tk } mg mb fa o pm cd doc a vs ns G Y ho (fd_plain hd) hcd hmg hobj hints hlen hg rfl F X) (fun f s' hq => ?_) (fun _ _ hq => hq)
    obtain ⟨rfl, h2, h3, h4⟩ := hq
    exact ⟨.inl ⟨.bool true, .bool true, [], rfl, fun _ => rfl, .bool true, post_true l _, fun _ => ⟨List.Pairwise.nil, fun _ hm => (nomatch hm)⟩⟩, h2, h3, h4⟩

/-- the same from a codeAny of the CALL (for a layer whose function contracts speak of calls) -/
theorem attach_call {l : OpenLaw} {n : Nat} {q : Program} {loose : List Str} {XP : (Str → Option Value) → Heap → Prop} {YP : World → Heap → Prop} {d : DefRec}
    (hn : l.most = some n) (hdf : d.params.defaults = [])
    (call : ∀ (w : World) (s₀ s₁ : Shared) (mg mb : Str → Option Value) (fa : Addr) (o : Obj) (pm cd doc : Value) (a : Addr) (vs : List Value) (ns : List Int),
      Ground q loose [] XP w s₀ mg mb s₁.heap → YP w s₁.heap →
      s₁.heap.get? fa = some o → o.data = .func (docDef d.name d.params d.body d.scope pm cd doc) → s₁.heap.CodeRec cd d.name → mg d.name = some (.ref fa) →
      s₁.heap.get? a = some { cls := .type "list", data := .seq vs.toArray } → IntsAre vs ns → ns.length ≤ n → s₁.gens = #[] →
      codeAny (model l.prog w) callerA (.call (.ref fa) ⟨[.ref a], []⟩) (fun r s' => r = .ok (.ret (.bool true)) ∧ OldK s₁.heap s'.heap ∧ s'.os = s₁.os ∧ AllBare s'.gens) s₁) :
    WalkO q loose XP YP l.row.toRowW d [] (fun f vs => PySem.call f vs) := by
  intro w s₀ s₁ mg mb G Y fa o pm cd doc dV kV ho hd hcd hD hmg hg args vals as hpre hlay hrd hwl hlo
  obtain rfl : dV = .none := Dflts.none hD hdf
  obtain rfl : kV = .none := Dflts.noKw hD
  obtain ⟨a, vs, ns, rfl, rfl, hobj, hints, hlen⟩ := script_of hn hpre hwl
  refine enter_call (codeAny_mono (call w s₀ s₁ mg mb fa o pm cd doc a vs ns G Y ho (fd_plain hd) hcd hmg hobj hints hlen hg) fun r s' hq => ?_)
  obtain ⟨rfl, h2, h3, h4⟩ := hq
  exact ⟨.inl ⟨.bool true, .bool true, [], rfl, fun _ => rfl, .bool true, post_true l _, fun _ => ⟨List.Pairwise.nil, fun _ hm => (nomatch hm)⟩⟩, h2, h3, h4⟩

/-- the same where the top left finished generators (o_head chose holds_openN): nothing may have changed at all and no generator may be left -/
theorem attachN {l : OpenLaw} {n : Nat} {q : Program} {loose : List Str} {XP : (Str → Option Value) → Heap → Prop} {YP : World → Heap → Prop} {d : DefRec} {x : Str}
    (hn : l.most = some n) (hdf : d.params.defaults = [])
    (hbind : ∀ pm cd doc v : Value, bindArgs (docDef d.name d.params d.body d.scope pm cd doc) ⟨[v], []⟩ = pure [(x, v)])
    (hx : d.scope.names.lookup x = some .local ∨ d.scope.names.lookup x = some .cell)
    (hk : d.scope.kind = .function) (hco : d.scope.isCoroutine = false) (hgen : d.scope.isGenerator = false)
    (body : ∀ (w : World) (s₀ s₁ s : Shared) (mg mb : Str → Option Value) (fa : Addr) (o : Obj) (pm cd doc : Value) (a : Addr) (vs : List Value) (ns : List Int),
      Ground q loose [] XP w s₀ mg mb s₁.heap → YP w s₁.heap →
      s₁.heap.get? fa = some o → o.data = .func (docDef d.name d.params d.body d.scope pm cd doc) → s₁.heap.CodeRec cd d.name → mg d.name = some (.ref fa) →
      s₁.heap.get? a = some { cls := .type "list", data := .seq vs.toArray } → IntsAre vs ns → ns.length ≤ n →
      s.gens = #[] → s.os = s₁.os →
      Fr s₁.heap s₁.heap.objs.size s.heap (bindL (envOfC d.name d.scope s₁.heap.objs.size fa cd).kindOf [(x, .ref a)] fun _ => none) →
      Cl s₁.heap.objs.size (cellsFrom (s₁.heap.objs.size + 1) d.scope.names []) s.heap (bindC (envOfC d.name d.scope s₁.heap.objs.size fa cd).kindOf [(x, .ref a)] fun _ => none) →
      wpAny (model l.prog w) (callerA.deeper (envOfC d.name d.scope s₁.heap.objs.size fa cd)) (execs d.body (envOfC d.name d.scope s₁.heap.objs.size fa cd))
        (fun f s' => f = .ret (.bool true) ∧ (∀ b o, s₁.heap.get? b = some o → s'.heap.get? b = some o) ∧ s'.os = s₁.os ∧ s'.gens = #[]) (fun _ _ => False) s) :
    WalkN q loose XP YP l.row.toRowW d [] (fun f vs => PySem.call f vs) := by
  intro w s₀ s₁ mg mb G Y fa o pm cd doc dV kV ho hd hcd hD hmg hg args vals as hpre hlay hrd hwl hlo
  obtain rfl : dV = .none := Dflts.none hD hdf
  obtain rfl : kV = .none := Dflts.noKw hD
  obtain ⟨a, vs, ns, rfl, rfl, hobj, hints, hlen⟩ := script_of hn hpre hwl
  refine enter_callW ?_
  refine call_cells_ret (o := o) (by rw [depth_caller]; decide) ho (fd_plain hd) G.T.nolimit hcd (hbind pm cd doc (.ref a)) (fun y hy => ?_) (fun h₁ tk F X => ?_) hco hgen hk
  · obtain rfl : y = (x, Value.ref a) := List.mem_singleton.mp hy
    rcases hx with e | e
    · exact .inl e
    · exact .inr ⟨e, cellsFrom_some _ _ _ (.inl e)⟩
  · refine wpAny_mono (body w s₀ s₁ { s₁ with heap := h₁, toks := tk } mg mb fa o pm cd doc a vs ns G Y ho (fd_plain hd) hcd hmg hobj hints hlen hg rfl F X) (fun f s' hq => ?_) (fun _ _ hq => hq)
    obtain ⟨rfl, h2, h3, h4⟩ := hq
    exact ⟨.inl ⟨.bool true, .bool true, [], rfl, fun _ => rfl, .bool true, post_true l _, fun _ => ⟨List.Pairwise.nil, fun _ hm => (nomatch hm)⟩⟩, h2, h3, h4⟩

/-! ### rules over ANY heap (no ledger) from facts about the written part K: the library's own take a ledger (News) for what they write -/
section
variable {prog : Program} {w : World} {A : Around} {E : Value → Shared → Prop} {s : Shared} {K : Frag}

/-- a def of the module, or a method (qual 'C.m'), entered: the frame is the next address; cells behind it -/
theorem call_fn {R : Result → Shared → Prop} {name qual : Str} {params : Arguments} {body : List Stmt} {scope : Scope} {dV kV doc pm cdv ct oc : Value} {an od : Option Addr} {osl : Array (Option Value)} {f : Addr} {args : Args} {binds : List (Str × Value)}
    (X : K.In s.heap) (hlim : s.heap.NoLimit) (ho : K.lookup f = some ⟨oc, od, .func (fnOf name qual params body scope dV kV doc pm an cdv ct), osl⟩) (hcd : codeIn K cdv qual = true) (hroom : A.depth < recursionLimit)
    (hbind : BindsTo s (fnOf name qual params body scope dV kV doc pm an cdv ct) args binds)
    (hkind : (binds.all fun y => scope.names.lookup y.1 == some .local || scope.names.lookup y.1 == some .cell) = true)
    (h : ∀ s₁, InCallC s s.heap.objs.size (bindL (envOfC qual scope s.heap.objs.size f cdv).kindOf binds fun _ => none) (cellsFrom (s.heap.objs.size + 1) scope.names [])
        (bindC (envOfC qual scope s.heap.objs.size f cdv).kindOf binds fun _ => none) s₁ →
      wpAny (model prog w) (A.deeper (envOfC qual scope s.heap.objs.size f cdv)) (execs body (envOfC qual scope s.heap.objs.size f cdv))
        (fun fl s' => R (.ok (.ret (match fl with | .ret v => v | _ => .none))) s')
        (fun e s' => wpAny (model prog w) (A.deeper (envOfC qual scope s.heap.objs.size f cdv)) (leaving (envOfC qual scope s.heap.objs.size f cdv) e) (fun _ s'' => R (.error e) s'') (fun e' s'' => R (.error e') s'') s') s₁)
    (hco : scope.isCoroutine = false) (hgen : scope.isGenerator = false) (hk : scope.kind = .function) : codeAny (model prog w) A (.call (.ref f) args) R s := by
  refine codeAny_call_function hroom (X _ _ ho) rfl hco hgen rfl (codeRec_of X hcd) (hbind _ _ _ _ ?_)
  refine wpAny_newFunctionEnv_cells hk (kindsX hkind _) fun env he s₁ x => ?_
  subst he
  exact ⟨hlim.keeps x.toInCall.keep, codeAny_func (h s₁ x)⟩

/-- C(..): dict at size, instance at size + 1, then __init__ -/
theorem make_obj {R : Result → Shared → Prop} {C fI : Addr} {rest : List Value} {kw : List (Str × Value)}
    (X : K.In s.heap) (hm : makesIn K C = true) (hi : findIn K (.ref C) "__init__" = some (some (.ref fI))) (hf : isFn K (.ref fI) = true)
    (h : codeAny (model prog w) (A.under (.builtin "type.__call__" ⟨.ref C :: rest, kw⟩)) (.call (.ref fI) ⟨.ref (s.heap.objs.size + 1) :: rest, kw⟩) (InitBack (s.heap.objs.size + 1) R)
      { s with heap := (s.heap.push emptyDict).push (instObj C s.heap.objs.size) }) : codeAny (model prog w) A (.call (.ref C) ⟨rest, kw⟩) R s := by
  obtain ⟨hh, g, d, t, os⟩ := s
  exact make_core (makes_of X hm) (looks_findIn X hi) (fun self => bind_fn X self (beq_iff_eq.mp hf)) (.inl rfl) h

/-- x.name where the instance's dict holds the name and the class does not -/
theorem get_field {x C : Addr} {ox : Obj} {es : List DictEntry} {n : Nat} {name : Str} {expr : Bool} {v : Value} {Q : Value → Shared → Prop}
    (X : K.In s.heap) (I : PySem.W.InstAt s.heap x ox C (some (dictOf es n))) (hg : plainGet K C name = true) (hh : hasDictIn K C = true) (ha : findIn K (.ref C) name = some none)
    (hl : getL name es = some (some v)) (hv : handedIn v = true) (h : Q v { s with toks := s.toks + 1 }) : wpAny (model prog w) A (getAttr (.ref x) name expr) Q E s :=
  get_value X I (plainGet_of hg).1 (findObj_own hh ha rfl hl) hv h

/-- x.m(..): the method found in the class -/
theorem get_method {x C f : Addr} {ox : Obj} {es : List DictEntry} {n : Nat} {name : Str} {pl : Sem Bool} {Q : Value × List Value → Shared → Prop}
    (X : K.In s.heap) (I : PySem.W.InstAt s.heap x ox C (some (dictOf es n))) (hg : plainGet K C name = true) (hf : findIn K (.ref C) name = some (some (.ref f))) (ht : isFn K (.ref f) = true)
    (hl : getL name es = some none) (h : Q (.ref f, [.ref x]) s) : wpAny (model prog w) A (getMethod (.ref x) name pl) Q E s :=
  method_fn X I (plainGet_of hg).1 (plainGet_of hg).2 hf (beq_iff_eq.mp ht) (by show (lookIn name (dictOf es n)).map _ = _; rw [lookIn_dict, hl]; rfl) h

/-! the whole heap as the ledger: makes every rule that writes through a ledger a rule over any heap -/
def noObjs (h : Heap) : Heap := { h with objs := #[] }
theorem noObjs_get (h : Heap) (b : Addr) : (noObjs h).get? b = none := by
  cases e : (noObjs h).get? b with
  | none => rfl
  | some o => exact absurd (Heap.lt_size e) (Nat.not_lt_zero _)
def ledger (h : Heap) (L d : Addr) : List (Addr × Obj) := (List.range h.objs.size).filterMap fun a => if a = L ∨ a = d then none else (h.get? a).map fun o => (a, o)
theorem mem_ledger {h : Heap} {L d a : Addr} {o : Obj} : (a, o) ∈ ledger h L d ↔ a ≠ L ∧ a ≠ d ∧ h.get? a = some o := by
  unfold ledger
  rw [List.mem_filterMap]
  constructor
  · rintro ⟨b, _, e⟩
    split at e
    · cases e
    · rename_i hb
      obtain ⟨o', ho, e'⟩ := Option.map_eq_some_iff.mp e
      cases e'
      exact ⟨fun q => hb (.inl q), fun q => hb (.inr q), ho⟩
  · rintro ⟨n1, n2, ho⟩
    refine ⟨a, List.mem_range.mpr (Heap.lt_size ho), ?_⟩
    rw [if_neg (show ¬ (a = L ∨ a = d) from fun q => q.elim n1 n2), ho] <;> rfl
theorem news_ledger {h : Heap} {L d : Addr} {od : Obj} (hne : d ≠ L) (ho : h.get? d = some od) : News (noObjs h) L h ([] ++ (d, od) :: ledger h L d) := by
  rintro ⟨a, o⟩ hp
  rcases List.mem_cons.mp hp with e | hp
  · cases e
    exact ⟨ho, hne, noObjs_get _ _⟩
  · obtain ⟨n1, n2, e⟩ := mem_ledger.mp hp
    exact ⟨e, n1, noObjs_get _ _⟩
theorem fr_all {h : Heap} {L : Addr} {m : Str → Option Value} (n : h.Ns L m) : Fr (noObjs h) L h m :=
  ⟨n, fun b o e => (by rw [noObjs_get] at e; cases e), Nat.zero_le _⟩
/-- Upd of the head entry (for append_K, setItem_K ..) -/
theorem upd_ledger {h : Heap} {L d : Addr} {o o' : Obj} : Upd d o o' ((d, o) :: ledger h L d) ((d, o') :: ledger h L d) :=
  .head fun ⟨_, _⟩ hp => (mem_ledger.mp hp).2.1

/-- x.name = v over any heap: L is any namespace of the heap (the frame's, say): its map stays, its object is not told; all else but the dict stays -/
theorem set_field {x C dx L : Addr} {ox : Obj} {m : Str → Option Value} {es es' : List DictEntry} {n n' : Nat} {name : Str} {v : Value} {Q : Unit → Shared → Prop}
    (X : K.In s.heap) (I : PySem.W.InstAt s.heap x ox C (some (dictOf es n))) (hd : ox.dict = some dx) (hL : s.heap.Ns L m) (hne : dx ≠ L)
    (hs : findIn K (.ref C) "__setattr__" = some (some (.builtin "object.__setattr__"))) (hp : plainOver K C = true) (ht : takerIn K C name = some none) (hh : hasDictIn K C = true) (hl : (getL name es).isSome = true)
    (e : (putL name (PyData.keyHash w.params name) (.str name (s.toks + 1)) v es, putN name es n) = (es', n')) (hz : es'.length ≤ 1000)
    (h : ∀ h' : Heap, h'.Ns L m → h'.get? dx = some (dictOf es' n') → (∀ b o, b ≠ dx → b ≠ L → s.heap.get? b = some o → h'.get? b = some o) → Q () { s with heap := h', toks := s.toks + 2 }) :
    wpAny (model prog w) A (setAttr (.ref x) name v) Q E s := by
  obtain ⟨e1, e2⟩ := Prod.mk.inj e
  have hdx : s.heap.get? dx = some (dictOf es n) := by
    have := I.dict
    rw [hd] at this
    exact this
  refine set_plain X I hs (osa_dict (s := { s with toks := s.toks + 1 }) (h₀ := noObjs s.heap) (L := L) (m := m) (od := dictOf es n) (od' := dictOf es' n') (es := es') (n := n') (pre := []) (post := ledger s.heap L dx)
    (fr_all hL) (news_ledger hne hdx) X I hd hp ht hh hl (fun _ q => nomatch q) (fun ⟨_, _⟩ q => (mem_ledger.mp q).2.1) (by rw [putName_dict, e1, e2]) rfl hz fun h' F' N' => ?_)
  exact h h' F'.ns (N'.get (List.Mem.head _)) fun b o n1 n2 ho => N'.get (List.Mem.tail _ (mem_ledger.mpr ⟨n2, n1, ho⟩))
end
end Att

namespace L2
open PySem PySem.Spec PyProof.Rows

theorem vals_ints : ∀ {vs : List Value} {ns : List Int}, IntsAre vs ns → Vals (ns.map V.int) vs
  | _, _, .nil => .nil
  | _, _, .cons n t h => .cons ⟨t, rfl⟩ (vals_ints h)

/-- nothing is tracked but the script, known to the object (or it is an object of the module) -/
def Only (H : Hp) : Prop := ∀ b, H b = none ∨ ∃ o xs, H b = some (.frz o (.lst xs))

/-- THE HEAD: the law's promise, at the heap behind the top. F, the promise of the law's def, may use that base is part of the heap (so K.In base, base.Ns mainGlobals mg stand in Mod) -/
theorem law_call {P : Program} {w : World} {K : PySem.W.Frag} {mg mb : Str → Option Value} {CX : CXT} {k : Nat} {fa a : Addr} {fd : FuncData} {x : Str} {sp : Sp} {s₁ : Shared} {vs : List Value} {ns : List Int}
    (KX : K.In s₁.heap) (hns : s₁.heap.Ns mainGlobals mg) (hb : s₁.heap.Ns builtinsNs mb) (hbb : ∀ x : Str, x ≠ "__name__" → mb x = bootBuiltins x) (hlim : s₁.heap.NoLimit) (hg : s₁.gens = #[])
    (ha : s₁.heap.get? a = some { cls := .type "list", data := .seq vs.toArray }) (hi : IntsAre vs ns) (hl : ns.length ≤ sizeLine) (hr : Room k callerA)
    (F : ∀ base : Heap, K.In base → base.Ns mainGlobals mg → FnOk P w K mg base CX k fa fd [x] sp) (hbind : ∀ (s : Shared) (u : Value), BindsTo s fd ⟨[u], []⟩ [(x, u)])
    (hsp : ∀ H : Hp, Only H → SqL K H a (ns.map V.int) → sp [.ref a] H (fun v _ => v = .bl true) fun _ _ _ => False)
    (hCX : ∀ H e s', CX [] H s₁ (fun _ _ _ => False) e s' → False) :
    codeAny (model P w) callerA (.call (.ref fa) ⟨[.ref a], []⟩) (fun r s' => r = .ok (.ret (.bool true)) ∧ OldK s₁.heap s'.heap ∧ s'.os = s₁.os ∧ AllBare s'.gens) s₁ := by
  have rv := vals_ints hi
  have lenV := hi.length
  -- from an abstract heap in which nothing but the script may be tracked
  have core : ∀ H : Hp, Only H → SqL K H a (ns.map V.int) → HOk P w H s₁.heap → (∀ b, H b ≠ none → b = a) → (H a ≠ none → K.lookup a = none) →
      codeAny (model P w) callerA (.call (.ref fa) ⟨[.ref a], []⟩) (fun r s' => r = .ok (.ret (.bool true)) ∧ OldK s₁.heap s'.heap ∧ s'.os = s₁.os ∧ AllBare s'.gens) s₁ := by
    intro H hO hS hok hA hK
    have base_of : ∀ {b : Addr} {o : Obj}, s₁.heap.get? b = some o → H b = none → (hidT s₁.heap H).get? b = some o := fun e n => hidT_get e n
    have noA : ∀ {b : Addr} {o : Obj} {es : Array DictEntry} {ep : Nat}, s₁.heap.get? b = some o → o.data = .dict es ep → H b = none := fun {b o es ep} e d => by
      cases q : H b with
      | none => rfl
      | some u =>
        have e' : b = a := hA b (by rw [q]; simp)
        subst e'
        rw [ha] at e; cases e
        have d' : Data.seq vs.toArray _ = Data.dict es ep := d
        cases d'
    have nsK : ∀ {b : Addr} {m : Str → Option Value}, s₁.heap.Ns b m → (hidT s₁.heap H).Ns b m := fun {b m} ⟨o, es, ep, e, d, r⟩ => ⟨o, es, ep, base_of e (noA e d), d, r⟩
    have hKb : K.In (hidT s₁.heap H) := fun b o e => base_of (KX b o e) (by
      cases q : H b with
      | none => rfl
      | some u =>
        have e' : b = a := hA b (by rw [q]; simp)
        subst e'
        rw [hK (by rw [q]; simp)] at e; cases e)
    have hM : Mod K mg (hidT s₁.heap H) := ⟨hKb, nsK hns, ⟨mb, nsK hb, hbb⟩, let ⟨mc, h1, h2⟩ := hlim; ⟨mc, nsK h1, h2⟩⟩
    have e0 : Env0 P w K mg (hidT s₁.heap H) callerA [] s₁ H := ⟨rfl, hM, fun b o e => of_hidT e, Nat.le_of_eq (hidT_size _ _), trivial, fun b hb => absurd (show b ∈ ([] : List Addr) from hb) (by simp), hok, .of_eq hg⟩
    refine codeAny_mono ((F _ hKb (nsK hns)).run callerA [] s₁ H ⟨[.ref a], []⟩ [.ref a] [.ref a] _ _ hr e0 (hbind s₁ (.ref a)) (.cons rfl .nil) (hsp H hO hS)) fun r s' h => ?_
    cases r with
    | error e => exact (hCX H e s' h).elim
    | ok fl =>
      cases fl with
      | next => exact False.elim h
      | brk => exact False.elim h
      | cont => exact False.elim h
      | ret u =>
        obtain ⟨v, H', os, bare, un, hok', r', q⟩ := h
        have q' : v = .bl true := q
        subst q'
        obtain rfl : u = Value.bool true := r'
        refine ⟨rfl, OldK.of_keep fun b o e => ?_, os, bare⟩
        cases q : H b with
        | none => exact un.keep b o e q (by intro z; exact absurd (show b ∈ ([] : List Addr) from z) (by simp)) (by simp)
        | some u =>
          rcases hO b with z | ⟨ob, xs, z⟩
          · rw [q] at z; cases z
          · have z2 := un.frzs b ob _ z
            obtain ⟨e1, _⟩ := hok b _ z
            obtain ⟨e2, _⟩ := hok' b _ z2
            rw [e] at e1; cases e1
            exact e2
  cases hk : K.lookup a with
  | some o =>
    -- the script is one of the module's own objects
    have e := KX a o hk
    rw [ha] at e
    cases e
    refine core (fun _ => none) (fun _ => .inl rfl) (.inr ⟨_, vs.toArray, _, hk, rfl, rfl, rfl, by rw [List.size_toArray, lenV]; exact hl, by simpa using rv⟩) (fun b u z => by have z' : (none : Option HO) = some u := z; cases z') (fun b z => absurd rfl z) fun z => absurd rfl z
  | none =>
    refine core (fun b => if b = a then some (.frz { cls := .type "list", data := .seq vs.toArray } (.lst (ns.map V.int))) else none) (fun b => ?_) (.inl (.inr ⟨{ cls := .type "list", data := .seq vs.toArray }, if_pos rfl⟩)) (fun b u z => ?_) (fun b z => ?_) fun _ => hk
    · by_cases hb : b = a
      · exact .inr ⟨_, _, if_pos hb⟩
      · exact .inl (if_neg hb)
    · by_cases hb : b = a
      · have z' := (if_pos hb).symm.trans z
        cases z'
        subst hb
        exact ⟨ha, by rw [List.length_map]; exact hl, vs, _, rv, ha⟩
      · have z' := (if_neg hb).symm.trans z
        cases z'
    · by_cases hb : b = a
      · exact hb
      · exact absurd (if_neg hb) z
end L2

namespace L2
open PySem PySem.Spec PyProof.Rows

abbrev KOf {K : PySem.W.Frag} {h : Heap} (_ : K.In h) : PySem.W.Frag := K

/-- the goal that k_head leaves (case hc), from the law's promise. F gives the function object fd (K's own) once, then the promise over every base -/
theorem walk_of {l : PySem.W.OpenLaw} {n k : Nat} {q : Program} {loose : List Str} {XP : (Str → Option Value) → Heap → Prop} {YP : World → Heap → Prop} {d : DefRec} {K : Params → PySem.W.Frag} {CX : World → CXT} {sp : World → Sp} {x : Str}
    (hn : l.most = some n) (hn2 : n ≤ sizeLine) (hdf : d.params.defaults = []) (hr : Room k callerA)
    (hY : ∀ (w : World) (h : Heap), YP w h → (K w.params).In h)
    (F : ∀ (w : World) (mg : Str → Option Value) (fa : Addr) (h : Heap), (K w.params).In h → h.Ns mainGlobals mg → mg d.name = some (.ref fa) →
      ∃ fd : FuncData, (∀ (s : Shared) (u : Value), BindsTo s fd ⟨[u], []⟩ [(x, u)]) ∧
        ∀ base : Heap, (K w.params).In base → base.Ns mainGlobals mg → FnOk l.prog w (K w.params) mg base (CX w) k fa fd [x] (sp w))
    (hsp : ∀ (w : World) (H : Hp) (a : Addr) (ns : List Int), ns.length ≤ n → Only H → SqL (K w.params) H a (ns.map V.int) → sp w [.ref a] H (fun v _ => v = .bl true) fun _ _ _ => False)
    (hCX : ∀ (w : World) (H : Hp) (s : Shared) (e : Value) (s' : Shared), CX w [] H s (fun _ _ _ => False) e s' → False) :
    PySem.W.WalkO q loose XP YP l.row.toRowW d [] (fun f vs => PySem.call f vs) := by
  refine Att.attach_call hn hdf fun w s₀ s₁ mg mb fa o pm cd doc a vs ns G Y ho hd hcd hmg hobj hints hlen hg => ?_
  have KX := hY w _ Y
  obtain ⟨fd, hb, hF⟩ := F w mg fa _ KX G.T.g hmg
  exact law_call KX G.T.g G.T.b G.T.builtins G.T.nolimit hg hobj hints (Nat.le_trans hlen hn2) hr hF hb (fun H hO hS => hsp w H a ns hlen hO hS) fun H e s' => hCX w H s₁ e s'
/-- the same where the promise hangs on the written part alone: (sp := My.sp_law), no hole under a binder -/
theorem walk_ofK {l : PySem.W.OpenLaw} {n k : Nat} {q : Program} {loose : List Str} {XP : (Str → Option Value) → Heap → Prop} {YP : World → Heap → Prop} {d : DefRec} {K : Params → PySem.W.Frag} {CX : CXT} {sp : PySem.W.Frag → Sp} {x : Str}
    (hn : l.most = some n) (hn2 : n ≤ sizeLine) (hdf : d.params.defaults = []) (hr : Room k callerA)
    (hY : ∀ (w : World) (h : Heap), YP w h → (K w.params).In h)
    (F : ∀ (w : World) (mg : Str → Option Value) (fa : Addr) (h : Heap), (K w.params).In h → h.Ns mainGlobals mg → mg d.name = some (.ref fa) →
      ∃ fd : FuncData, (∀ (s : Shared) (u : Value), BindsTo s fd ⟨[u], []⟩ [(x, u)]) ∧
        ∀ base : Heap, (K w.params).In base → base.Ns mainGlobals mg → FnOk l.prog w (K w.params) mg base CX k fa fd [x] (sp (K w.params)))
    (hsp : ∀ (K : PySem.W.Frag) (H : Hp) (a : Addr) (ns : List Int), ns.length ≤ n → Only H → SqL K H a (ns.map V.int) → sp K [.ref a] H (fun v _ => v = .bl true) fun _ _ _ => False)
    (hCX : ∀ (H : Hp) (s : Shared) (e : Value) (s' : Shared), CX [] H s (fun _ _ _ => False) e s' → False) :
    PySem.W.WalkO q loose XP YP l.row.toRowW d [] (fun f vs => PySem.call f vs) :=
  walk_of (K := K) (CX := fun _ => CX) (sp := fun w => sp (K w.params)) hn hn2 hdf hr hY F (fun w H a ns h1 h2 h3 => hsp (K w.params) H a ns h1 h2 h3) fun _ H s e s' => hCX H s e s'
end L2

/- THE LAST THEOREM (shape; LID, My.* are yours):
   My.Adr: a structure of the addresses that your layer names (classes, functions); My.Txt K t: a structure (Prop) of the equations over K;
   My.txt_mk : {K} {implicit addresses ..} (e1 : nsIn K mainGlobals "law" = some (some (.ref f))) (e2 : K.lookup f = some ⟨oc, od, .func (fnOf "law" "law" params body scope dV kV doc pm an cdv ct), sl⟩) (e3 : codeIn K cdv "law" = true) .. : ∃ t, My.Txt K t

set_option maxRecDepth 100000 in
set_option maxHeartbeats 0 in
theorem PySem.Challenge.cw_LID_holds : PySem.Challenge.rw_LID.Holds := by
  w_on; o_law; k_head; (case hw => w_witness2)
  k_fill
  refine L2.walk_of (l := PySem.Challenge.rw_LID) (n := 63) (k := 40) (x := "script") (CX := fun w => ..) (sp := fun _ => My.sp_law) rfl (by decide) rfl ⟨rfl, by decide, by decide⟩ (fun w h Y => PySem.W.kIn_of Y) ?F ?S ?C
  case F =>
    intro w mg fa h KX G hmg
    have T : ∃ t, My.Txt (L2.KOf KX) t := by
      dsimp only [L2.KOf]                          -- K must stand as «<heap const> w.params» for k_is
      refine' My.txt_mk ?e1 ?e2 ?e3 ..
      (case e1 => PySem.W.k_is)                    -- in the order: a name -> its address -> its object -> its parts
      (case e2 => PySem.W.k_is)
      ..
    obtain ⟨t, T⟩ := T
    have e0 := hmg.symm.trans (PySem.W.mg_of KX G T.law)
    cases e0                                       -- fa is the law's own address
    exact ⟨_, fun s u => .of_eq rfl, fun base kb nb => My.law_fn T kb nb⟩     -- if «.of_eq rfl» comes too early: refine' ⟨_, ?b, fun base kb nb => My.law_fn T kb nb⟩; exact fun s u => .of_eq rfl
  case S => exact fun w H a ns hl hO hS => ..
  case C => exact ..
(the tactic k_is has no namespace: write k_is) -/

/-! SHORT WORDS over the layer: a def of the text, its body, what a loop and a test want. -/
namespace L2
open PySem PySem.Spec PyProof.Rows

/-! ### the text by places -/
/-- the j-th statement of a class's body -/
def inClass (s : Stmt) (j : Nat) : Stmt := match s with
  | .ClassDef _ _ _ body _ _ _ _ _ _ _ => body.getD j (.Pass ⟨0, 0, 0, 0⟩)
  | _ => .Pass ⟨0, 0, 0, 0⟩
def defArgs (s : Stmt) : Arguments := match s with
  | .FunctionDef _ a _ _ _ _ _ _ _ _ => a
  | _ => { posonlyargs := [], args := [], vararg := none, kwonlyargs := [], kw_defaults := [], kwarg := none, defaults := [] }
def defBody (s : Stmt) : List Stmt := match s with
  | .FunctionDef _ _ b _ _ _ _ _ _ _ => b
  | _ => []
def defScope (s : Stmt) : Scope := match s with
  | .FunctionDef _ _ _ _ _ _ sc _ _ _ => sc
  | _ => { kind := .function, names := [], isGenerator := false, isCoroutine := false }

/-! ### no exception leaves a def -/
abbrev CX0 : CXT := fun _ _ _ _ _ _ => False
abbrev E0 : XK := fun _ _ _ => False
theorem pass0 {X : Cx} : Passes CX0 X E0 := fun _ _ _ _ _ _ _ h => h.elim

/-! ### a def (or method) of the text as it stands behind the top -/
structure Fun (K : PySem.W.Frag) (x qual : Str) (st : Stmt) (f : Addr) (fd : FuncData) : Prop where
  ex : ∃ (oc : Value) (od : Option Addr) (kV doc pm : Value) (an : Option Addr) (cdv ct : Value) (osl : Array (Option Value)),
    fd = PySem.W.fnOf x qual (defArgs st) (defBody st) (defScope st) .none kV doc pm an cdv ct ∧ K.lookup f = some ⟨oc, od, .func fd, osl⟩ ∧ PySem.W.codeIn K cdv qual = true
  kp : PySem.W.keepIn K (.ref f) = true
section
variable {P : Program} {w : World} {K : PySem.W.Frag} {mg : Str → Option Value} {base : Heap}
/-- THE RULE for a def: its body as a term of rules, and the reading of that term -/
theorem Fun.ok {x qual : Str} {st : Stmt} {f : Addr} {fd : FuncData} {N ps : List Str} {k : Nat} {sp : Sp} (F : Fun K x qual st f fd) (S : FnScope N ps (defScope st)) (len : ∀ vs H Q E, sp vs H Q E → vs.length = ps.length)
    (hbody : ∀ (cdv : Value) (A : Around) (outer : List Env) (s : Shared) (H : Hp) (vs : List V) (Q : VK) (E : XK), Room k (A.deeper (envOfC qual (defScope st) s.heap.objs.size f cdv)) → sp vs H Q E →
      ∃ t, PSs (cxOf CX0 P w K mg base N qual (defScope st) f cdv A outer s H E).nox (defBody st) t ∧ t { nx := fun _ H' => Q .non H', rt := Q } (start N vs) H) : FnOk P w K mg base CX0 (k + 1) f fd ps sp := by
  obtain ⟨oc, od, kV, doc, pm, an, cdv, ct, osl, rfl, lk, hcd⟩ := F.ex
  refine fn_of lk hcd S len fun A outer s H vs Q E hr hsp => ?_
  obtain ⟨t, h, q⟩ := hbody cdv A outer s H vs Q E hr hsp
  exact ⟨t, h.nox, q⟩
/-- how its arguments bind (no defaults): h is «fun _ _ _ _ _ _ us hl => match us, hl with | [_, _], _ => rfl», one _ a parameter -/
theorem Fun.binds {x qual : Str} {st : Stmt} {f : Addr} {fd : FuncData} {ps : List Str} (F : Fun K x qual st f fd)
    (h : ∀ (kV doc pm : Value) (an : Option Addr) (cdv ct : Value) (us : List Value), us.length = ps.length → bindArgs (PySem.W.fnOf x qual (defArgs st) (defBody st) (defScope st) .none kV doc pm an cdv ct) ⟨us, []⟩ = pure (ps.zip us)) : Binds K fd ps [] := by
  obtain ⟨oc, od, kV, doc, pm, an, cdv, ct, osl, rfl, lk, hcd⟩ := F.ex
  exact .all (h kV doc pm an cdv ct)
theorem fun_mk {x qual : Str} {st : Stmt} {f : Addr} {oc : Value} {od an : Option Addr} {osl : Array (Option Value)} {kV doc pm cdv ct : Value} (l : K.lookup f = some ⟨oc, od, .func (PySem.W.fnOf x qual (defArgs st) (defBody st) (defScope st) .none kV doc pm an cdv ct), osl⟩)
    (c : PySem.W.codeIn K cdv qual = true) (k : PySem.W.keepIn K (.ref f) = true) : Fun K x qual st f (PySem.W.fnOf x qual (defArgs st) (defBody st) (defScope st) .none kV doc pm an cdv ct) := ⟨⟨oc, od, kV, doc, pm, an, cdv, ct, osl, rfl, l, c⟩, k⟩
end
theorem hu_of {A : Around} {k : Nat} (hr : Room k A) : A.units + 1 < cLine := Nat.lt_of_le_of_lt (Nat.add_le_add_left (by decide : 1 ≤ 64) _) hr.units
theorem small1000 {n : Nat} (h : n ≤ 1000) : n < sizeLine := Nat.lt_of_le_of_lt h (by decide)

/-! ### expressions in short: the name that stands in the i-th slot -/
section
variable {X : Cx}
theorem pv (i : Nat) {x : Str} {pos : Pos} (hN : X.N[i]? = some x := by rfl) (hv : Vis X.env.scope x := by first | exact Or.inl rfl | exact Or.inr (Or.inl rfl) | exact Or.inr (Or.inr rfl)) (hd : (x == ("__debug__" : Str)) = false := by decide)
    (hcd : (x == ("__classdict__" : Str)) = false := by decide) : PE X (.Name x pos) (tVar i) := pe_var hN hv hd hcd
end

/-! ### tests -/
theorem iteF {A B : Prop} (h : B) : if false = true then A else B := by
  rw [if_neg Bool.false_ne_true]
  exact h
theorem iteT {A B : Prop} (h : A) : if true = true then A else B := by
  rw [if_pos rfl]
  exact h
theorem ite2 {c A B : Prop} [Decidable c] (h1 : c → A) (h2 : ¬ c → B) : if c then A else B := by
  by_cases h : c
  · rw [if_pos h]
    exact h1 h
  · rw [if_neg h]
    exact h2 h
theorem iteNS {c A B : Prop} [Decidable c] (hc : c) (h : B) : if (!decide c) = true then A else B := by
  rw [decide_eq_true hc]
  exact iteF h

/-! ### heaps -/
/-- all that was tracked is as it was -/
def Same (H H' : Hp) : Prop := ∀ b o, H b = some o → H' b = some o
theorem Same.refl (H : Hp) : Same H H := fun _ _ h => h
theorem Same.trans {H H1 H2 : Hp} (a : Same H H1) (b : Same H1 H2) : Same H H2 := fun c o h => b c o (a c o h)
theorem Same.free {H H' : Hp} (e : Same H H') {l : Addr} (h : H' l = Option.none) : H l = Option.none := by
  cases q : H l with
  | none => rfl
  | some o =>
    rw [e l o q] at h
    cases h
theorem Same.seq {K : PySem.W.Frag} {H H' : Hp} {a : Addr} {xs : List V} (e : Same H H') (h : SqL K H a xs) : SqL K H' a xs := by
  rcases h with (h | ⟨o, h⟩) | h
  · exact .inl (.inl (e _ _ h))
  · exact .inl (.inr ⟨o, e _ _ h⟩)
  · exact .inr h

end L2
set_option Elab.async false
set_option linter.all false
set_option maxRecDepth 100000
set_option maxHeartbeats 4000000
namespace L2
open PySem PySem.Spec PyProof.Rows

/-! ### a list comprehension of one clause (no exception leaves its block) -/
/-- the block's context: nm its names, cl the cells that it takes over, C its own map, fp the iterator's records -/
abbrev cxComp (X : Cx) (nm : List Str) (scope : Scope) (cl : List (Str × Addr)) (C : Addr) (s0 : Shared) (H0 : Hp) (fp : List Addr) : Cx :=
  { X with N := nm, s₀ := s0, H₀ := H0, env := compEnvC scope cl C X.env, outer := X.stack, stack := X.stack, ex := fp, fn := fun _ => false, pn := [], xe := fun _ _ => False }

def PTs (X : Cx) (ifs : List Expr) (t : TT) : Prop :=
  ∀ (pins : List (Addr × Obj)) (s : Shared) (σ : St) (H : Hp) (Q : Bool → Hp → Prop), Inv X pins σ H s → t σ H Q →
    wpAny (model X.prog X.w) X.A (forIn ifs true fun c r => if r = true then do let ok ← isTrue c X.env (eval c X.env); pure (ForInStep.yield ok) else pure (ForInStep.yield r)) (TP X pins σ Q) X.xe s
def tYes : TT := fun _ H Q => Q true H
theorem pts_nil {X : Cx} : PTs X [] tYes := fun _ _ _ H _ I h => wpAny_tests_nil ⟨H, I, h⟩
theorem pts_one {X : Cx} {c : Expr} {t : TT} (hc : PT X c t) : PTs X [c] t := fun pins s σ H Q I h => wpAny_tests_one (hc pins s σ H Q I h)

/-- the captured slots -/
def capSt (cap : List (Option Nat)) (σ : St) : St := cap.map fun o => o.bind fun j => (σ[j]?).join
def tComp (cap : List (Option Nat)) (wi : TI) (g : TG) (tc : TT) (te : TE) : TE := fun σ H Q => wi σ H fun J H1 => ∃ W : Nat → Nat → List V → Hp → Prop, (∃ m, W 0 m [] H1) ∧ ∀ i m ys H2, W i m ys H2 →
  (J.stop i H2 ∧ ys.length ≤ sizeLine ∧ ∀ p, H2 p = none → Q (.ref p) (upd H2 p (.lst ys))) ∨
  (J.go i H2 ∧ ∀ x H3, J.yld i H2 x H3 → g x (capSt cap σ) H3 fun σ2 H4 => tc σ2 H4 fun b H5 => if b = true then te σ2 H5 fun y H6 => ys.length < sizeLine ∧ ∃ m', m' < m ∧ W (i + 1) m' (ys ++ [y]) H6 else ∃ m', m' < m ∧ W (i + 1) m' ys H5)

theorem Un.cellK {fs ex : List Addr} {H H' : Hp} {h h' : Heap} (u : Un fs ex H H' h h') {c : Addr} {v : Option Value} (x : h.IsCell c v) (n : H c = none) (he : c ∉ ex) : h'.IsCell c v := by
  obtain ⟨o, ho, hd⟩ := x
  obtain ⟨sl, q⟩ := u.any ho n he
  exact ⟨_, q, hd⟩

/-- a captured name: a cell of the def's, handed on -/
structure CapOk (X : Cx) (scope : Scope) (cl : List (Str × Addr)) (x : Str) : Prop where
  vis : Vis X.env.scope x
  nl : X.env.scope.names.lookup x ≠ some .local
  cl : cl.lookup x = X.env.cells.lookup x
  kd : (relabel scope X.env).names.lookup x = some .cell ∨ (relabel scope X.env).names.lookup x = some .free

section
variable {X : Cx} {elt tg iter : Expr} {ifs : List Expr} {scope : Scope} {pos : Pos} {nm : List Str} {cl : List (Str × Addr)} {cap : List (Option Nat)} {wi : TI} {g : TG} {tc : TT} {te : TE}

theorem recap {pins pins2 : List (Addr × Obj)} {σ σ2 : St} {H1 H : Hp} {s2 s : Shared} {C : Addr} {fp : List Addr}
    (hcap : ∀ (i j : Nat), cap[i]? = some (some j) → ∃ x, nm[i]? = some x ∧ X.N[j]? = some x ∧ CapOk X scope cl x) (hlen : cap.length = nm.length)
    (I2 : Inv X pins σ H1 s2) (hfp : ∀ b ∈ fp, ∀ x c, X.env.cells.lookup x = some c → c ≠ b)
    (I : Inv (cxComp X nm scope cl C s2 H1 fp) pins2 σ2 H s) : Inv (cxComp X nm scope cl C s2 H1 fp) pins2 (capSt cap σ) H s := by
  refine ⟨I.ok, I.os, I.bare, I.base, ?_, I.cell, I.free, I.freeC, I.pin, I.hok, by show (capSt cap σ).length = nm.length; unfold capSt; rw [List.length_map]; exact hlen⟩
  obtain ⟨m, hn, _⟩ := I.loc
  refine ⟨m, hn, fun i x v e1 e2 e3 => ?_⟩
  unfold capSt at e2
  rw [List.getElem?_map] at e2
  cases hc : cap[i]? with
  | none => rw [hc] at e2; cases e2
  | some oj =>
    cases oj with
    | none => rw [hc] at e2; cases e2
    | some j =>
      rw [hc] at e2
      have e2' : (σ[j]?).join = some v := by simpa using e2
      have e2 : σ[j]? = some (some v) := by
        cases hs : σ[j]? with
        | none => rw [hs] at e2'; cases e2'
        | some ov => rw [hs] at e2'; simp at e2'; rw [e2']
      obtain ⟨x', f1, f2, k⟩ := hcap i j hc
      have hx : x' = x := by
        have z : nm[i]? = some x := e1
        rw [f1] at z; exact Option.some.inj z
      subst hx
      obtain ⟨m2, _, hl2⟩ := I2.loc
      obtain ⟨u, r, l⟩ := hl2 j x' v f2 e2 k.vis
      refine ⟨u, r, ?_⟩
      rcases l with ⟨kl, _⟩ | ⟨_, c, hcc, hcell⟩
      · exact absurd kl k.nl
      · refine .inr ⟨k.kd, c, by rw [← hcc]; exact k.cl, ?_⟩
        exact I.base.cellK hcell (I2.freeC _ _ hcc) fun z => hfp c z _ _ hcc rfl

theorem append_plain {prog : Program} {w : World} {A : Around} {E : Value → Shared → Prop} {s : Shared} {l : Addr} {its : List Value} {n : Nat} {u : Value} {Q : Value → Shared → Prop}
    (e : s.heap.get? l = some { cls := .type "list", data := .seq its.toArray n }) (hz : its.length < sizeLine)
    (h : ∀ (h' : Heap) (n' tk : Nat), h'.get? l = some { cls := .type "list", data := .seq (its ++ [u]).toArray n' } → (∀ b o, b ≠ l → s.heap.get? b = some o → h'.get? b = some o) → Q .none { s with heap := h', toks := tk }) :
    wpAny (model prog w) A (call (.builtin "list.append") [.ref l, u]) Q E s := by
  refine call_meets F.slot_list_append ⟨_, e, rfl⟩ F.entry_list_append (F.args_list_append_2 _ _) (PySem.list_append l its.toArray n u (by rw [List.size_toArray]; omega)) ⟨e, ?_⟩
  have q := PySem.IsL.update e (fun a => a.push u)
  have q2 : (s.heap.update l (Obj.mapSeq fun x => x.push u)).get? l = some { cls := .type "list", data := .seq (its ++ [u]).toArray (if ((its.toArray.push u).size == its.toArray.size) = true then n else n + 1) } := by
    rw [show (s.heap.update l (Obj.mapSeq fun x => x.push u)).get? l = _ from q]; simp
  exact h _ _ s.toks q2 fun b o hb ho => (Heap.get?_update_other s.heap (Obj.mapSeq _) (Ne.symm hb)).trans ho

theorem pe_comp (hcalm : X.calm = true) (hclos : closureFor scope X.env = pure cl) (hcl : ∀ x c, cl.lookup x = some c → X.env.cells.lookup x = some c)
    (hkind : scope.kind = .function) (hnames : ∀ x ∈ scope.names, x.2 = .local → scope.names.lookup x.1 = some .local) (hcell : ∀ y ∈ scope.names, y.2 ≠ .cell)
    (hhas : ∀ x, ((relabel scope X.env).names.lookup x = some .cell ∨ (relabel scope X.env).names.lookup x = some .free) → ∃ c, cl.lookup x = some c)
    (hcap : ∀ (i j : Nat), cap[i]? = some (some j) → ∃ x, nm[i]? = some x ∧ X.N[j]? = some x ∧ CapOk X scope cl x) (hlen : cap.length = nm.length)
    (hi : PI X tg iter wi) (hg : ∀ C s0 H0 fp, PG (cxComp X nm scope cl C s0 H0 fp) tg g) (ht : ∀ C s0 H0 fp, PTs (cxComp X nm scope cl C s0 H0 fp) ifs tc)
    (he : ∀ C s0 H0 fp, PE (cxComp X nm scope cl C s0 H0 fp) elt te) (hs : ∀ x, foldedSetIterable iter X.env x = pure x := by intro _; rfl) :
    PE X (.ListComp elt [⟨tg, iter, ifs, 0⟩] scope pos) (tComp cap wi g tc te) := by
  intro pins s σ H Q I h
  rw [eval_ListComp]
  refine wpAny_comprehension_free (use := none) rfl hs hclos hkind hnames (thn (hi pins s σ H _ I h) fun v s1 h1 => thn h1 fun itv s2 h2 => ?_)
  obtain ⟨it, fp, tn, J, H1, e, I2, T, st2, f2, W, ⟨m0, w0⟩, turn⟩ := h2
  subst e
  have hfpn : ∀ b ∈ fp, b < s2.heap.objs.size := fun b hb => let ⟨o, ho, _⟩ := T.obj _ _ st2 b hb; Heap.lt_size ho
  have hfpc : ∀ b ∈ fp, ∀ x c, X.env.cells.lookup x = some c → c ≠ b := fun b hb => (f2 b hb).2.2.2.2.1
  -- the accumulator and the block's map
  refine wpAny_newObj_type (wpAny_newFunctionEnv hcell (by intro y hy; simp at hy) (fun h₁ hns₁ hsb₁ => ?_) hkind)
  dsimp only at hns₁ hsb₁ ⊢
  generalize hH2 : s2.heap.push { cls := .type "list", dict := none, data := .seq ([] : List Value).toArray } = G2 at hns₁ hsb₁ ⊢
  have hC : G2.objs.size = s2.heap.objs.size + 1 := by rw [← hH2, Heap.size_push]
  have hDC : s2.heap.objs.size ≠ G2.objs.size := by rw [hC]; exact Nat.ne_of_lt (Nat.lt_succ_self _)
  have old : ∀ b o, s2.heap.get? b = some o → h₁.get? b = some o := fun b o e => hsb₁.extBut b o (by rw [hC]; exact Nat.ne_of_lt (Nat.lt_succ_of_lt (Heap.lt_size e))) (Heap.get?_push_of_some _ (hH2 ▸ Heap.get?_push_of_some _ e))
  have hacc : h₁.get? s2.heap.objs.size = some { cls := .type "list", data := .seq ([] : List Value).toArray } := hsb₁.extBut _ _ hDC (Heap.get?_push_of_some _ (hH2 ▸ Heap.get?_push_size _ rfl))
  -- the block's invariant at its start
  have okB : (cxComp X nm scope cl G2.objs.size s2 H1 fp).Ok := by
    refine ⟨I2.ok.mod, hkind, I2.ok.glob, I2.ok.blt, by show s2.heap.objs.size ≤ G2.objs.size; omega, fun x y c h1 h2 => I2.ok.inj x y c (hcl _ _ h1) (hcl _ _ h2), fun x hx => hhas x hx, fun x c h0 => (by cases h0), fun hc => I2.ok.hd hcalm, I2.ok.frames, .inl rfl, ?_, ?_, ?_, ?_, ?_, ?_, ?_⟩
    · intro b hb
      exact ⟨Nat.ne_of_lt (Nat.lt_of_lt_of_le (hfpn b hb) (by show _ ≤ G2.objs.size; omega)), fun x c hx => hfpc b hb x c (hcl _ _ hx)⟩
    · exact fun b o hb => I2.bs b o hb
    · exact Nat.le_trans I2.ok.bsz I2.sz
    · intro b o hb z
      rcases (f2 b z).2.2.2.1 with q | q
      · exact I2.ok.noex b o hb q
      · exact absurd (Heap.lt_size (I2.ok.bs b o hb).1) (Nat.not_lt.mpr q)
    · intro b hb z
      rcases List.mem_cons.mp (I2.stkSub b z) with q | q
      · exact (f2 b hb).2.1 q
      · exact (f2 b hb).2.2.1 q
    · exact I2.stack
    · exact I2.stkFree
  have I4 : Inv (cxComp X nm scope cl G2.objs.size s2 H1 fp) [] (capSt cap σ) H1 { s2 with heap := h₁, toks := s2.toks + ([] : List (Str × Value)).length } := by
    refine recap hcap hlen I2 hfpc (σ2 := List.replicate nm.length none) ⟨okB, rfl, I2.bare, Un.kept old, ⟨_, hns₁, fun i x v _ e2 => ?_⟩, fun x c hx => ?_, ?_, fun x c hx => I2.freeC x c (hcl _ _ hx), fun p hp => absurd hp (by simp), I2.hok.kept old, by simp⟩
    · rw [List.getElem?_replicate] at e2; split at e2 <;> cases e2
    · obtain ⟨v, hv⟩ := I2.cell x c (hcl _ _ hx)
      exact ⟨v, hv.keeps old⟩
    · exact I2.hok.fresh (by show _ ≤ G2.objs.size; omega)
  have hsz0 : ∀ {Hx : Hp} {sx : Shared} {px : List (Addr × Obj)} {σx : St}, Inv (cxComp X nm scope cl G2.objs.size s2 H1 fp) px σx Hx sx → Hx s2.heap.objs.size = none → ∀ {oa : Obj}, sx.heap.get? s2.heap.objs.size = some oa → (∀ v, oa.data ≠ .cell v) →
      Inv (cxComp X nm scope cl G2.objs.size s2 H1 fp) [(s2.heap.objs.size, oa)] σx Hx sx := fun {Hx sx px σx} Ix hn {oa} ho hd => Ix.pins_of fun p hp => by
    have e : p = (s2.heap.objs.size, oa) := by simpa using hp
    subst e
    exact ⟨ho, hn, hDC, fun z => by
      obtain ⟨_, o, q, _⟩ := I2.stack.mem z
      exact absurd (Heap.lt_size q) (Nat.lt_irrefl _), hd⟩
  have hfpB : ∀ {Hx : Hp} {oa : Obj}, (∀ b ∈ fp, Hx b = none) → ∀ b ∈ fp, FpOk (cxComp X nm scope cl G2.objs.size s2 H1 fp) [(s2.heap.objs.size, oa)] Hx b := fun {Hx oa} hn b hb =>
    ⟨hn b hb, (okB.exf b hb).1, okB.exfs b hb, .inl hb, (okB.exf b hb).2, fun p hp => by
      have e : p = (s2.heap.objs.size, oa) := by simpa using hp
      subst e
      exact Nat.ne_of_gt (hfpn b hb)⟩
  have hcalmB : (cxComp X nm scope cl G2.objs.size s2 H1 fp).calm = true := hcalm
  have loop : ∀ sx : Shared, sx = { s2 with heap := h₁, toks := s2.toks + ([] : List (Str × Value)).length } →
      codeAny (model X.prog X.w) X.A (.compLoop (.ListComp elt [⟨tg, iter, ifs, 0⟩] scope pos) 0 (.ref it) (.ref s2.heap.objs.size) (compEnvC scope cl G2.objs.size X.env))
        (compPost (model X.prog X.w) X.A X.xe none (EP X pins σ Q) (.ref s2.heap.objs.size) G2.objs.size) sx := by
    rintro sx rfl
    refine codeAny_loop rfl (fun n s' => ∃ i ys H', Inv (cxComp X nm scope cl G2.objs.size s2 H1 fp) [] (capSt cap σ) H' s' ∧ tn i s'.heap ∧ (∀ b ∈ fp, H' b = none) ∧ H' s2.heap.objs.size = none ∧
      (∃ its k, Vals ys its ∧ s'.heap.get? s2.heap.objs.size = some { cls := .type "list", data := .seq its.toArray k }) ∧ W i n ys H') ?_ m0
      ⟨0, [], H1, I4, T.keep _ _ _ st2 (fun b _ o e => old b o e), fun b hb => (f2 b hb).1, I2.fresh, ⟨[], 0, .nil, hacc⟩, w0⟩
    rintro n s3 ⟨i, ys, H3, I3, st3, fr3, na3, ⟨its, ka, rv, ea⟩, w3⟩
    show wpAny _ X.A ((compTurn (.ListComp elt [⟨tg, iter, ifs, 0⟩] scope pos) 0 (.ref it) (.ref s2.heap.objs.size) (compEnvC scope cl G2.objs.size X.env)).onRaise (fun x => do noteFrame x (compEnvC scope cl G2.objs.size X.env); theTreesLotGoes x)) _ _ s3
    refine wpAny_noted ?_
    rw [compTurn_list]
    refine wpAny_bind (wpAny_standAt ?_)
    have I3p := hsz0 I3 na3 ea (fun v z => by cases z)
    rcases turn i n ys H3 w3 with ⟨stop, hz, qn⟩ | ⟨go, step⟩
    · refine wpAny_bind (wpAny_mono (T.done (cxComp X nm scope cl G2.objs.size s2 H1 fp) rfl rfl rfl hcalmB i _ s3 _ H3 (fun _ _ => False) I3p (hfpB fr3) st3 stop) (fun r s4 hr => ?_) fun _ _ z => z.elim)
      obtain ⟨hr, I4'⟩ := hr
      subst hr
      refine wpAny_pure ?_
      obtain ⟨m4, hn4, _⟩ := id I4'.loc
      refine ⟨m4, hn4, fun h' hs' => ?_⟩
      have pa := I4'.pin (s2.heap.objs.size, { cls := .type "list", data := .seq its.toArray ka }) (by simp)
      have ne : ∀ b o, s2.heap.get? b = some o → b ≠ s2.heap.objs.size ∧ b ≠ G2.objs.size := fun b o e => ⟨Nat.ne_of_lt (Heap.lt_size e), Nat.ne_of_lt (by rw [hC]; exact Nat.lt_succ_of_lt (Heap.lt_size e))⟩
      have kp : ∀ b o, b ≠ G2.objs.size → s4.heap.get? b = some o → h'.get? b = some o := fun b o hb e => hs'.extBut b o hb e
      refine ⟨.ref s2.heap.objs.size, upd H3 s2.heap.objs.size (.lst ys), ?_, rfl, qn _ na3⟩
      refine I2.call' (ch := fp) I4'.os ⟨fun b o e n hb hx => ?_, fun b o e n hb hx => ?_, fun b o e n hx => ?_, fun b o e hx => ?_, fun b xs e => ?_, fun b o u e => ?_, fun b ps e => ?_⟩ ?_ I4'.bare fun b hb => ?_
      · exact kp b o (ne b o e).2 (I4'.base.keep b o e n hb hx)
      · obtain ⟨sl, q⟩ := I4'.base.slot b o e n hb hx
        exact ⟨sl, kp b _ (ne b o e).2 q⟩
      · rw [upd_ne (ne b o e).1]; exact I4'.base.free b o e n hx
      · obtain ⟨o', q⟩ := I4'.base.there b o e hx
        exact ⟨o', kp b _ (ne b o e).2 q⟩
      · have q := I4'.base.tups b xs e
        rw [upd_ne (ne_of_none q na3)]; exact q
      · have q := I4'.base.frzs b o u e
        rw [upd_ne (ne_of_none q na3)]; exact q
      · obtain ⟨mr, q⟩ := I4'.base.tbls b ps e
        exact ⟨mr, by rw [upd_ne (ne_of_none q na3)]; exact q⟩
      · intro b o e
        by_cases hb : b = s2.heap.objs.size
        · subst hb
          rw [upd_same] at e; cases e
          exact ⟨hz, its, ka, rv, kp _ _ hDC pa.1⟩
        · rw [upd_ne hb] at e
          refine (I4'.hok b o e).stay (fun c u hc q => kp c u (fun z => ?_) q) (fun c q => by rw [upd_ne (ne_of_none q na3)]; exact q) fun c xs q => by rw [upd_ne (ne_of_none q na3)]; exact q
          subst z
          have fr : H3 G2.objs.size = none := I4'.free
          rcases hc with rfl | hc
          · rw [fr] at e; cases e
          · rw [fr] at hc; cases hc
      · obtain ⟨_, g1, _, g3, g4, g5⟩ := f2 b hb
        exact ⟨g3, g1, g4, g5⟩
    · refine wpAny_bind (wpAny_mono (T.item (cxComp X nm scope cl G2.objs.size s2 H1 fp) rfl rfl rfl hcalmB i _ s3 _ H3 (fun _ _ => False) I3p (hfpB fr3) st3 go) (fun r s4 hr => ?_) fun _ _ z => z.elim)
      obtain ⟨u, hr, h4⟩ := hr
      subst hr
      dsimp only
      refine wpAny_bind (wpAny_mono h4 (fun _ s5 h5 => ?_) fun _ _ z => z.elim)
      obtain ⟨x, H5, I5, r5, y5, st5, fr5⟩ := h5
      have I5' := I5.pinned (hfpB fr5) (T.obj _ _ st5)
      refine wpAny_bind (wpAny_mono (hg _ _ _ _ _ s5 _ H5 x u _ I5' r5 (step x H5 y5)) (fun _ s6 h6 => ?_) fun _ _ z => z.elim)
      obtain ⟨σ6, H6, I6, q6⟩ := h6
      refine wpAny_bind (wpAny_mono (ht _ _ _ _ _ s6 σ6 H6 _ I6 q6) (fun ok s7 h7 => ?_) fun _ _ z => z.elim)
      obtain ⟨H7, I7, q7⟩ := h7
      have back : ∀ {H8 : Hp} {s8 : Shared} {ys' : List V} {its' : List Value} {k' : Nat}, Inv (cxComp X nm scope cl G2.objs.size s2 H1 fp) [] σ6 H8 s8 → (∀ b ∈ fp, ∀ o, s5.heap.get? b = some o → s8.heap.get? b = some o) → (∀ b ∈ fp, H8 b = none) → H8 s2.heap.objs.size = none →
          Vals ys' its' → s8.heap.get? s2.heap.objs.size = some { cls := .type "list", data := .seq its'.toArray k' } → (∃ m', m' < n ∧ W (i + 1) m' ys' H8) →
          ∃ m, m < n ∧ ∃ i ys H', Inv (cxComp X nm scope cl G2.objs.size s2 H1 fp) [] (capSt cap σ) H' s8 ∧ tn i s8.heap ∧ (∀ b ∈ fp, H' b = none) ∧ H' s2.heap.objs.size = none ∧
            (∃ its k, Vals ys its ∧ s8.heap.get? s2.heap.objs.size = some { cls := .type "list", data := .seq its.toArray k }) ∧ W i m ys H' :=
        fun {H8 s8 ys' its' k'} I8 kf f8 n8 rv8 e8 ⟨m', hm, w8⟩ => ⟨m', hm, i + 1, ys', H8, recap hcap hlen I2 hfpc I8, T.keep _ _ _ st5 kf, f8, n8, ⟨its', k', rv8, e8⟩, w8⟩
      cases ok with
      | false =>
        refine wpAny_pure ⟨rfl, ?_⟩
        have q7' : ∃ m', m' < n ∧ W (i + 1) m' ys H7 := by simpa using q7
        have pa := I7.pin (s2.heap.objs.size, { cls := .type "list", data := .seq its.toArray ka }) (by simp)
        refine back (I7.pins_of fun p hp => absurd hp (by simp)) (fun b hb o e => ?_) (fun b hb => ?_) pa.2.1 rv pa.1 q7'
        · exact (I7.pin (b, o) (List.mem_append_right _ (List.mem_append_right _ (mem_pinsAt hb e)))).1
        · obtain ⟨o, e, d⟩ := T.obj _ _ st5 b hb
          exact (I7.pin (b, o) (List.mem_append_right _ (List.mem_append_right _ (mem_pinsAt hb e)))).2.1
      | true =>
        rw [if_pos rfl] at q7
        refine wpAny_bind (wpAny_bind (wpAny_mono (he _ _ _ _ _ s7 σ6 H7 _ I7 q7) (fun xv s8 h8 => ?_) fun _ _ z => z.elim))
        obtain ⟨y, H8, I8, r8, hzy, q8⟩ := h8
        have pa := I8.pin (s2.heap.objs.size, { cls := .type "list", data := .seq its.toArray ka }) (by simp)
        refine wpAny_bind (append_plain pa.1 (by rw [← rv.length]; exact hzy) fun h' k' tk e9 sb => ?_)
        refine wpAny_pure (wpAny_pure ⟨rfl, ?_⟩)
        have I9 : Inv (cxComp X nm scope cl G2.objs.size s2 H1 fp) [] σ6 H8 { s8 with heap := h', toks := tk } :=
          (Inv.pins_of (pins' := []) I8 fun p hp => absurd hp (by simp)).turned (it := s2.heap.objs.size) (fun b o hb e => sb b o hb e) pa.2.1 hDC (.inr (Nat.le_refl _)) (fun x c hx z => by
            obtain ⟨v, hv⟩ := I2.cell x c (hcl _ _ hx)
            exact absurd hv.lt (by rw [z]; exact Nat.lt_irrefl _)) (fun p hp => absurd hp (by simp))
        refine back I9 (fun b hb o e => ?_) (fun b hb => ?_) pa.2.1 (rv.append (.cons r8 .nil)) e9 q8
        · exact sb b o (Nat.ne_of_lt (hfpn b hb)) (I8.pin (b, o) (List.mem_append_right _ (List.mem_append_right _ (mem_pinsAt hb e)))).1
        · obtain ⟨o, e, d⟩ := T.obj _ _ st5 b hb
          exact (I8.pin (b, o) (List.mem_append_right _ (List.mem_append_right _ (mem_pinsAt hb e)))).2.1
  exact codeAny_compStart_list (loop _ rfl) (T.self _ _ _ _ _ (T.keep _ _ _ st2 fun b _ o e => old b o e) (loop _ rfl))
end
end L2
set_option Elab.async false
set_option linter.all false
set_option maxRecDepth 100000
set_option maxHeartbeats 4000000
namespace L2
open PySem PySem.Spec PyProof.Rows

/-! ### texts by their codes -/
def tx (l : List Nat) : Str := ⟨l.toArray⟩
theorem tx_cps (l : List Nat) : (tx l).cps.toList = l := rfl
theorem tx_of (z : Str) : tx z.cps.toList = z := by cases z; rfl
theorem tx_len (l : List Nat) : (tx l).length = l.length := by show l.toArray.size = _; simp
theorem tx_app (a b : List Nat) : tx a ++ tx b = tx (a ++ b) := by
  show (⟨a.toArray ++ b.toArray⟩ : Str) = ⟨(a ++ b).toArray⟩
  simp
theorem tx_inj {a b : List Nat} : tx a = tx b ↔ a = b := ⟨fun h => by have := congrArg (fun z : Str => z.cps.toList) h; exact this, fun h => by rw [h]⟩
theorem tx_one (c : Nat) : (⟨#[c]⟩ : Str) = tx [c] := rfl
theorem V_str_eq (a b : List Nat) : (decide (V.str (tx a) = V.str (tx b))) = decide (a = b) := by
  by_cases h : a = b
  · subst h; simp
  · rw [decide_eq_false h, decide_eq_false]
    intro e
    injection e with e
    exact h (tx_inj.mp e)
theorem ex_tx {p : Str → Prop} : (∃ z, p z) ↔ ∃ l, p (tx l) := ⟨fun ⟨z, h⟩ => ⟨z.cps.toList, by rw [tx_of]; exact h⟩, fun ⟨l, h⟩ => ⟨_, h⟩⟩

/-! ### iterators that hand out known values -/
def Itv (vals : List V) : It := ⟨fun i _ => i < vals.length, fun i H x H' => H' = H ∧ vals[i]? = some x, fun i _ => vals.length ≤ i⟩
theorem turn_walks {P : Program} {w : World} {K : PySem.W.Frag} {tg : Expr} {it : Addr} {vals : List V} {Pr : Nat → Value → Prop} {S : Nat → Heap → Prop} {ty : String}
    (W : ∀ A : Around, A.handled = none → Walks P w A it [it] [it] vals.length Pr S) (hv : ∀ i v, i < vals.length → Pr i v → ∃ x, vals[i]? = some x ∧ RelV x v)
    (hob : ∀ i h, S i h → ∃ o vs, h.get? it = some o ∧ o.cls = .type ty ∧ o.data = .fields vs)
    (hty : ["enumerate", "zip", "dict_itemiterator", "dict_reverseitemiterator", "odict_iterator", "itertools.zip_longest", "itertools.pairwise"].contains ty = false)
    (hself : ∀ (A : Around) (i : Nat) (s : Shared) (Q : Value → Shared → Prop) (E : Value → Shared → Prop), S i s.heap → Q (.ref it) s → wpAny (model P w) A (pyIter (.ref it)) Q E s) :
    Turn P w K tg (Itv vals) [it] it (fun i h => i ≤ vals.length ∧ S i h) where
  mem := by simp
  obj := fun i h st b hb => by
    have e : b = it := by simpa using hb
    subst e
    obtain ⟨o, vs, e, c, d⟩ := hob i h st.2
    exact ⟨o, e, fun v z => by rw [d] at z; cases z⟩
  keep := fun i h h' st k => ⟨st.1, (W { depth := 0, handled := none, frames := none } rfl).frame i h h' st.2 k⟩
  item := by
    intro X hP hw hK hc i pins s σ H E I hf st hg
    subst hP hw hK
    obtain ⟨f0, f1, f2, f3, f4, f5⟩ := hf it (by simp)
    refine (W X.A (I.ok.hd hc)).item i s _ _ hg st.2 fun v h' tk hp st' kk => ?_
    have I1 : Inv X pins σ H { s with heap := h', toks := tk } := I.turned (fun b o hb e => kk b o (by simpa using hb) e) f0 f1 f3 f4 f5
    obtain ⟨x, hx, rx⟩ := hv i v hg hp
    obtain ⟨o, vs, e, c, d⟩ := hob _ _ st'
    exact ⟨v, rfl, go_of (s := { s with heap := h', toks := tk }) e c d hty ⟨x, H, I1, rx, ⟨rfl, hx⟩, ⟨hg, st'⟩, fun b hb => (hf b hb).1⟩⟩
  done := by
    intro X hP hw hK hc i pins s σ H E I hf st hg
    subst hP hw hK
    obtain ⟨f0, f1, f2, f3, f4, f5⟩ := hf it (by simp)
    have e : i = vals.length := Nat.le_antisymm st.1 hg
    refine (W X.A (I.ok.hd hc)).done s _ _ (e ▸ st.2) fun h' tk kk => ⟨rfl, I.turned (fun b o hb e => kk b o (by simpa using hb) e) f0 f1 f3 f4 f5⟩
  self := fun A i s Q E st h => hself A i s Q E st.2 h

theorem for_vals {vals : List V} {g : TG} {tb : TS} {D : Ends} {σ : St} {H : Hp} (Pv : Nat → St → Hp → Prop) (h0 : Pv 0 σ H)
    (hs : ∀ i x σ H, vals[i]? = some x → Pv i σ H → g x σ H fun σ2 H2 => tb { D with nx := Pv (i + 1), ct := Pv (i + 1), bk := D.nx } σ2 H2) (hd : ∀ σ H, Pv vals.length σ H → D.nx σ H) :
    ∃ W : Nat → Nat → St → Hp → Prop, (∃ m, W 0 m σ H) ∧ ∀ i m σ H, W i m σ H →
      ((Itv vals).stop i H ∧ D.nx σ H) ∨ ((Itv vals).go i H ∧ ∃ N : St → Hp → Prop, (∀ σ' H', N σ' H' → ∃ m', m' < m ∧ W (i + 1) m' σ' H') ∧ ∀ x H', (Itv vals).yld i H x H' → g x σ H' fun σ2 H2 => tb { D with nx := N, ct := N, bk := D.nx } σ2 H2) := by
  refine ⟨fun i m σ H => m = vals.length - i ∧ i ≤ vals.length ∧ Pv i σ H, ⟨vals.length, by simp, Nat.zero_le _, h0⟩, ?_⟩
  rintro i m σ H ⟨rfl, hi, p⟩
  by_cases hlt : i < vals.length
  · refine .inr ⟨hlt, Pv (i + 1), fun σ' H' p' => ⟨vals.length - (i + 1), by omega, rfl, hlt, p'⟩, fun x H' y => ?_⟩
    obtain ⟨e, y⟩ := y
    subst e
    exact hs i x σ _ y p
  · have e : i = vals.length := by omega
    subst e
    exact .inl ⟨Nat.le_refl _, hd σ H p⟩

section
variable {X : Cx} {tg : Expr}
/-- the signs of a text -/
def signsV (l : List Nat) : List V := l.map fun c => .str (tx [c])
def iStr (tl : TE) : TI := fun σ H R => tl σ H fun x H1 => ∃ l, x = .str (tx l) ∧ R (Itv (signsV l)) H1
theorem signAt_ok {l : List Nat} (i : Nat) (v : Value) (hi : i < (signsV l).length) (h : SignAt (tx l) i v) : ∃ x, (signsV l)[i]? = some x ∧ RelV x v := by
  obtain ⟨c, u, hc, e⟩ := h
  refine ⟨.str (tx [c]), ?_, u, e⟩
  unfold signsV
  rw [List.getElem?_map]
  have : l[i]? = some c := by simpa [tx] using hc
  rw [this]; rfl
theorem pi_str {l : Expr} {tl : TE} (hl : PE X l tl) : PI X tg l (iStr tl) := by
  intro pins s σ H R I h
  refine thn (hl pins s σ H _ I h) fun v s1 ⟨x, H1, I1, r1, q1⟩ => ?_
  obtain ⟨l, e, q⟩ := q1
  subst e
  obtain ⟨t, rfl⟩ := r1
  have hn : (tx l).cps.size = (signsV l).length := by unfold signsV; simp [tx]
  have fin : ∀ (ob : Obj) (S : Nat → Heap → Prop) (ty : String), (∀ A : Around, A.handled = none → Walks X.prog X.w A s1.heap.objs.size [s1.heap.objs.size] [s1.heap.objs.size] (tx l).cps.size (SignAt (tx l)) S) → S 0 (s1.heap.push ob) →
      (∀ i h, S i h → ∃ o vs, h.get? s1.heap.objs.size = some o ∧ o.cls = .type ty ∧ o.data = .fields vs) →
      ["enumerate", "zip", "dict_itemiterator", "dict_reverseitemiterator", "odict_iterator", "itertools.zip_longest", "itertools.pairwise"].contains ty = false →
      (∀ (A : Around) (i : Nat) (s : Shared) (Q : Value → Shared → Prop) (E : Value → Shared → Prop), S i s.heap → Q (.ref s1.heap.objs.size) s → wpAny (model X.prog X.w) A (pyIter (.ref s1.heap.objs.size)) Q E s) →
      PIE X pins σ tg R (.ref s1.heap.objs.size) { s1 with heap := s1.heap.push ob } := fun ob S ty W h0 hob hty hself => by
    rw [hn] at W
    refine ⟨s1.heap.objs.size, [s1.heap.objs.size], _, _, H1, rfl, I1.kept (t' := s1.toks) fun b o e => Heap.get?_push_of_some _ e, turn_walks W (fun i v hi hp => signAt_ok i v hi hp) hob hty hself, ⟨Nat.zero_le _, h0⟩, fun b hb => ?_, q⟩
    have e : b = s1.heap.objs.size := by simpa using hb
    subst e
    exact I1.fpOk (Nat.le_refl _) I1.fresh
  cases ha : (tx l).cps.all (· < 128)
  · exact wpAny_pyIter_wide ha (fin _ _ _ (fun A hA => Walks.strWide hA _ (tx l) t) ⟨_, Heap.get?_push_size _ rfl, rfl, rfl⟩ (fun i h st => by obtain ⟨o, a, b, c⟩ := st; exact ⟨o, _, a, b, c⟩) (by decide) fun A i s Q E st h => wpAny_pyIter_striter_wide st h)
  · exact wpAny_pyIter_ascii ha (fin _ _ _ (fun A hA => Walks.strAscii hA _ (tx l) t) ⟨_, Heap.get?_push_size _ rfl, rfl, rfl⟩ (fun i h st => by obtain ⟨o, a, b, c⟩ := st; exact ⟨o, _, a, b, c⟩) (by decide) fun A i s Q E st h => wpAny_pyIter_striter_ascii st h)

/-! ### slices of a text -/
def cutN (l : List Nat) (lo hi : Option Int) : List Nat := (l.drop (HT.sIx l.length 0 lo)).take (HT.sIx l.length l.length hi - HT.sIx l.length 0 lo)
theorem cutN_length (l : List Nat) (lo hi : Option Int) : (cutN l lo hi).length ≤ l.length := by unfold cutN; rw [List.length_take, List.length_drop]; omega
theorem pick_range (l : List Nat) (i k : Nat) : ((List.range k).map fun (m : Nat) => i + m).filterMap (fun j => l[j]?) = (l.drop i).take k := by
  induction k generalizing i with
  | zero => simp
  | succ k ih =>
    rw [List.range_succ_eq_map, List.map_cons, List.map_map]
    have e : ((fun m => i + m) ∘ Nat.succ) = fun m => (i + 1) + m := by funext m; simp [Function.comp]; omega
    rw [e]
    by_cases h : i < l.length
    · rw [List.filterMap_cons]
      simp only [Nat.add_zero, List.getElem?_eq_getElem h]
      rw [ih (i + 1), List.drop_eq_getElem_cons h, List.take_succ_cons]
    · rw [List.filterMap_cons]
      have h' : l.length ≤ i := by omega
      simp only [Nat.add_zero, List.getElem?_eq_none h']
      rw [ih (i + 1), List.drop_eq_nil_of_le h', List.drop_eq_nil_of_le (by omega)]
      simp
theorem clipS (v : Int) (n d : Nat) : (if (1 : Int) > 0 then max 0 (min (if v < 0 then v + (n : Int) else v) (n : Int)) else max (-1) (min (if v < 0 then v + (n : Int) else v) ((n : Int) - 1))) = ((HT.sIx n d (some v) : Nat) : Int) := by
  rw [if_pos (by omega)]
  show _ = (((if v < 0 then (v + (n : Int)).toNat else min v.toNat n) : Nat) : Int)
  by_cases hv : v < 0
  · simp only [if_pos hv]; omega
  · simp only [if_neg hv]; omega
theorem strIdx (lo hi : Option Int) (n : Nat) : Builtin.Str.strSliceIndices lo hi 1 n = (List.range (HT.sIx n n hi - HT.sIx n 0 lo)).map fun (m : Nat) => HT.sIx n 0 lo + m := by
  have key : ∀ a b : Nat, sliceRange (a : Int) (b : Int) 1 = (List.range (b - a)).map fun (m : Nat) => a + m := fun a b => by
    unfold sliceRange
    have e : (if (1 : Int) > 0 then (if (a : Int) < (b : Int) then ((b : Int) - a + 1 - 1) / 1 else 0) else (if (a : Int) > b then ((a : Int) - b - 1 - 1) / (-1) else 0)).toNat = b - a := by
      rw [if_pos (by omega)]
      by_cases h : (a : Int) < b
      · rw [if_pos h]; omega
      · rw [if_neg h]; omega
    dsimp only
    rw [e]
    refine List.map_congr_left fun k _ => ?_
    omega
  unfold Builtin.Str.strSliceIndices
  rw [← key]
  dsimp only
  congr 1
  · cases lo with
    | none => rfl
    | some v => exact clipS v n 0
  · cases hi with
    | none => rfl
    | some v => exact clipS v n n
theorem slice_tx (l : List Nat) (lo hi : Option Int) : Txt.slice (tx l) lo hi = tx (cutN l lo hi) := by
  unfold Txt.slice
  rw [strIdx, tx_len]
  split
  · rename_i h
    simp only [beq_self_eq_true, Bool.true_and, beq_iff_eq, List.length_map, List.length_range] at h
    unfold cutN
    have h1 := HT.sIx_le l.length l.length (Nat.le_refl _) hi
    have h2 := HT.sIx_le l.length 0 (Nat.zero_le _) lo
    by_cases hz : l.length = 0
    · have : l = [] := List.eq_nil_of_length_eq_zero hz
      subst this; simp
    · have e0 : HT.sIx l.length 0 lo = 0 := by omega
      rw [e0, List.drop_zero, List.take_of_length_le (by omega)]
  · unfold cutN tx
    have : ∀ j : Nat, (l.toArray)[j]? = l[j]? := fun j => by simp
    simp only [this]
    rw [pick_range]

def rSlS : V → Option Int → Option Int → Hp → VK → Prop := fun x lo hi H Q => ∃ l, x = .str (tx l) ∧ l.length ≤ sizeLine ∧ Q (.str (tx (cutN l lo hi))) H
theorem part_of {v : Value} {o : Option Int} (p : IsPart v o) : ∃ q : Option (Int × Tok), v = partValue q ∧ q.map (·.1) = o := by
  cases p with
  | none => exact ⟨none, rfl, rfl⟩
  | int i t => exact ⟨some (i, t), rfl, rfl⟩
theorem sl_str : SlR X rSlS := by
  intro pins s σ H x v vl vu lo hi sl Q I rx hs pl pu h
  obtain ⟨l, e, hz, q⟩ := h
  subst e
  obtain ⟨t, rfl⟩ := rx
  obtain ⟨pl', rfl, rfl⟩ := part_of pl
  obtain ⟨pu', rfl, rfl⟩ := part_of pu
  refine ⟨"str", _, F.slot_str_getitem.lookup, typeIs_str _ _ _, ?_⟩
  refine wpAny_getItem_str_slice (l := pl') (u := pu') (st := none) hs rfl (post_val_or_str ?_)
  have e := slice_tx l (pl'.map (·.1)) (pu'.map (·.1))
  unfold Txt.slice at e
  show (if ((1 : Int) == 1 && (Builtin.Str.strSliceIndices (pl'.map (·.1)) (pu'.map (·.1)) 1 (tx l).length).length == (tx l).length) = true then tx l else ⟨((Builtin.Str.strSliceIndices (pl'.map (·.1)) (pu'.map (·.1)) 1 (tx l).length).filterMap ((tx l).cps[·]?)).toArray⟩ : Str).length ≤ sizeLine ∧
    ∀ t' k, EP X pins σ Q (.str (if ((1 : Int) == 1 && (Builtin.Str.strSliceIndices (pl'.map (·.1)) (pu'.map (·.1)) 1 (tx l).length).length == (tx l).length) = true then tx l else ⟨((Builtin.Str.strSliceIndices (pl'.map (·.1)) (pu'.map (·.1)) 1 (tx l).length).filterMap ((tx l).cps[·]?)).toArray⟩ : Str) t') { s with toks := k }
  rw [e, tx_len]
  exact ⟨Nat.le_trans (cutN_length l _ _) hz, fun t' k => ⟨.str _, H, I.tok k, ⟨t', rfl⟩, q⟩⟩

/-- x[::-1] of a text -/
def tRevS (te : TE) : TE := fun σ H Q => te σ H fun x H1 => ∃ l, x = .str (tx l) ∧ l.length ≤ sizeLine ∧ Q (.str (tx l.reverse)) H1
theorem rev_pick (l : List Nat) : (Builtin.Str.strSliceIndices none none (-1) l.length).filterMap (fun j => l[j]?) = l.reverse := by
  unfold Builtin.Str.strSliceIndices sliceRange
  have h1 : ¬ ((-1 : Int) > 0) := by decide
  simp only [h1, if_false]
  have e : (if (l.length : Int) - 1 > -1 then ((l.length : Int) - 1 - -1 - -1 - 1) / (- -1) else 0).toNat = l.length := by
    by_cases h : (l.length : Int) - 1 > -1
    · rw [if_pos h]; simp
    · rw [if_neg h]; omega
  rw [e]
  apply List.ext_getElem?
  intro i
  have mp : ∀ k : Nat, k ≤ l.length → ((List.range k).map fun (k : Nat) => ((l.length : Int) - 1 + -1 * (k : Int)).toNat).filterMap (fun j => l[j]?) = l.reverse.take k := by
    intro k
    induction k with
    | zero => intro _; simp
    | succ k ih =>
      intro hk
      rw [List.range_succ, List.map_append, List.filterMap_append, ih (by omega), List.map_singleton]
      have e2 : ((l.length : Int) - 1 + -1 * (k : Int)).toNat = l.length - 1 - k := by omega
      rw [e2, List.filterMap_cons]
      have hlt : l.length - 1 - k < l.length := by omega
      rw [List.getElem?_eq_getElem hlt, List.filterMap_nil]
      have hr : k < l.reverse.length := by simp; omega
      rw [List.take_add_one, List.getElem?_eq_getElem hr, List.getElem_reverse]
      rfl
  rw [mp l.length (Nat.le_refl _), List.take_of_length_le (by simp)]
theorem pe_revS {e one : Expr} {te : TE} {p2 p3 pos : Pos} {j : Nat} {p4 : Pos} (he : PE X e te) : PE X (.Subscript e (.Slice none none (some (.UnaryOp .USub (.Constant (.int 1) j p4) p3)) p2) pos) (tRevS te) := by
  intro pins s σ H Q I h
  refine Subscript_ (thn (he pins s σ H _ I h) fun v s1 ⟨x, H1, I1, r1, q1⟩ => ?_)
  obtain ⟨l, e, hz, q⟩ := q1
  subst e
  obtain ⟨t, rfl⟩ := r1
  refine wpAny_Slice ?_
  rw [evalPart_none]
  refine wpAny_pure (wpAny_pure ?_)
  show wpAny (model X.prog X.w) X.A (eval (.UnaryOp .USub (.Constant (.int 1) j p4) p3) X.env) _ _ s1
  refine UnaryOp_ (wpAny_Constant_int (neg_int ?_))
  have I4 : ∀ (ob : Obj) (tk : Nat), Inv X pins σ H1 { s1 with heap := s1.heap.push ob, toks := tk } := fun ob tk => I1.kept fun b o q => Heap.get?_push_of_some _ q
  dsimp only
  refine tail_any (ops := [.ref s1.heap.objs.size, .str (tx l) t]) (typeIs_str _ _ _) F.slot_str_getitem.lookup ?_ (by with_unfolding_all rfl)
  refine wpAny_getItem_str_slice (l := none) (u := none) (st := some (-1, _)) ⟨_, Heap.get?_push_size _ rfl, rfl, rfl⟩ (by rfl) (post_val_or_str ?_)
  have hn : ¬ ((((some ((-1 : Int), s1.toks + 1) : Option (Int × Tok)).map (·.1)).getD 1 == 1 && (slicePicked (tx l) none none (some (-1, s1.toks + 1))).length == (tx l).length) = true) := by
    intro z; simp at z
  rw [if_neg hn]
  have e : (⟨((slicePicked (tx l) none none (some (-1, s1.toks + 1))).filterMap ((tx l).cps[·]?)).toArray⟩ : Str) = tx l.reverse := by
    unfold slicePicked
    rw [tx_len]
    have : ∀ j : Nat, ((tx l).cps)[j]? = l[j]? := fun j => by simp [tx]
    simp only [this]
    show (⟨((Builtin.Str.strSliceIndices none none (-1) l.length).filterMap (fun j => l[j]?)).toArray⟩ : Str) = _
    rw [rev_pick]; rfl
  rw [e, tx_len, List.length_reverse]
  exact ⟨hz, fun t' k => ⟨.str _, H1, I4 _ k, ⟨t', rfl⟩, q⟩⟩

/-! ### in, order, join of texts -/
theorem in_one (c : Nat) (l : List Nat) : (!(Builtin.Str.occurrences (tx l) (tx [c]) 0 (tx l).length 1).isEmpty) = decide (c ∈ l) := StrLaws.found_one (tx l) c
def rInS (neg : Bool) : R2 := fun x y H Q => ∃ c l, x = .str (tx [c]) ∧ y = .str (tx l) ∧ Q (.bl (if neg then !decide (c ∈ l) else decide (c ∈ l))) H
theorem op_in_one : OpR X (compareOp .In) (rInS false) := by
  intro pins s σ H x y v u Q I rx ry h
  obtain ⟨c, l, rfl, rfl, q⟩ := h
  exact op_in_str pins s σ H _ _ v u Q I rx ry ⟨_, _, rfl, rfl, by rw [in_one]; exact q⟩
theorem op_notin_one : OpR X (compareOp .NotIn) (rInS true) := by
  intro pins s σ H x y v u Q I rx ry h
  obtain ⟨c, l, rfl, rfl, q⟩ := h
  exact op_notin_str pins s σ H _ _ v u Q I rx ry ⟨_, _, rfl, rfl, by rw [in_one]; exact q⟩
theorem op_le_one : OpR X (compareOp .LtE) (fun x y H Q => ∃ c d, x = .str (tx [c]) ∧ y = .str (tx [d]) ∧ Q (.bl (decide (c ≤ d))) H) := by
  intro pins s σ H x y v u Q I rx ry h
  obtain ⟨c, d, rfl, rfl, q⟩ := h
  obtain ⟨t, rfl⟩ := rx
  obtain ⟨t', rfl⟩ := ry
  refine PySem.P.le_str ⟨.bl _, H, I, ?_, q⟩
  show Value.bool _ = Value.bool _
  congr 1
  show (!decide ([d] < [c])) = decide (c ≤ d)
  by_cases hcd : c ≤ d
  · rw [decide_eq_true hcd, decide_eq_false]; rfl
    intro z
    cases z with
    | rel z => omega
    | cons z => cases z
  · rw [decide_eq_false hcd, decide_eq_true]; rfl
    exact .rel (by omega)
theorem strsAre_of : ∀ {ys : List (List Nat)} {its : List Value}, Vals (ys.map fun l => V.str (tx l)) its → StrsAre its (ys.map tx)
  | [], _, r => by cases r; exact .nil
  | y :: ys, _, r => by
    cases r with
    | cons r rr =>
      obtain ⟨t, rfl⟩ := r
      exact .cons _ _ (strsAre_of rr)
theorem of_strsAre : ∀ {its : List Value} {ss : List Str}, StrsAre its ss → Vals (ss.map fun z => V.str z) its
  | _, _, .nil => .nil
  | _, _, .cons y t r => .cons ⟨t, rfl⟩ (of_strsAre r)
/-- parts with a text between -/
def joinN (sep : List Nat) : List (List Nat) → List Nat
  | [] => []
  | [x] => x
  | x :: y :: r => x ++ sep ++ joinN sep (y :: r)
theorem joinN_nil : ∀ ys : List (List Nat), joinN [] ys = ys.flatten
  | [] => rfl
  | [x] => by simp [joinN]
  | x :: y :: r => by rw [joinN, joinN_nil (y :: r)]; simp
theorem join_tx (sep : List Nat) : ∀ ys : List (List Nat), Txt.join (tx sep) (ys.map tx) = tx (joinN sep ys) := fun ys => by
  show Builtin.Str.glued (tx sep) (ys.map tx) = _
  rw [StrLaws.glued_eq_join]
  induction ys with
  | nil => rfl
  | cons x r ih =>
    cases r with
    | nil => rfl
    | cons y r =>
      show tx x ++ tx sep ++ Str.join (tx sep) ((y :: r).map tx) = tx (x ++ sep ++ joinN sep (y :: r))
      rw [ih, tx_app, tx_app]
def rJoin (K : PySem.W.Frag) : V → List V → Hp → VK → Prop := fun x vs H Q => ∃ (sep : List Nat) (a : Addr) (ys : List (List Nat)), x = .str (tx sep) ∧ vs = [.ref a] ∧ SqL K H a (ys.map fun l => V.str (tx l)) ∧ (ys.map List.length).sum + ys.length * sep.length ≤ 16777216 ∧ Q (.str (tx (joinN sep ys))) H
theorem mt_join : MtR X "str.join" (rJoin X.K) := by
  intro pins s σ H x vs v us Q I rx rv h
  obtain ⟨sep, a, ys, rfl, rfl, hS, hz, q⟩ := h
  obtain ⟨t, rfl⟩ := rx
  obtain ⟨u, rfl, ru⟩ := rv.one
  cases ru
  obtain ⟨its, r, p, _⟩ := I.list hS
  refine join_list p.isList (strsAre_of (by simpa using r)) ?_ fun t' k => ?_
  · rw [List.map_map, tx_len, List.length_map]
    have e : ((fun z : Str => z.length) ∘ tx) = List.length := by funext l; exact tx_len l
    rw [e]; exact hz
  · rw [join_tx]
    exact ⟨.str _, H, I.tok k, ⟨t', rfl⟩, q⟩
end

/-! ### isinstance, a built-in type -/
theorem call_isi {X : Cx} : CallR X (.builtin "isinstance") (fun xs H Q => ∃ x T t b, xs = [x, .ty T] ∧ TyOf X.K H x t ∧ PySem.W.kitOne X.K t (.type T) = some b ∧ Q (.bl b) H) := by
  intro pins s σ H xs us Q I r h
  obtain ⟨x, T, t, b, rfl, ty, e, q⟩ := h
  obtain ⟨u, u2, rfl, r1, r2⟩ := Vals.two r
  obtain rfl : u2 = .type T := r2
  exact isinst_ok I r1 ty e fun tk => ⟨.bl b, H, I.tok tk, rfl, q⟩
end L2
set_option Elab.async false
set_option linter.all false
set_option maxRecDepth 100000
set_option maxHeartbeats 4000000
namespace L2
open PySem PySem.Spec PyProof.Rows

/-! ### whole values: None, truths, ints, texts, tuples of them (a tuple as a chain) -/
inductive D where
  | non | bl (b : Bool) | int (i : Int) | str (l : List Nat) | tnil | tcons (d r : D)
  deriving DecidableEq
def D.tup : List D → D
  | [] => .tnil
  | d :: r => .tcons d (D.tup r)
mutual
def Dp (K : PySem.W.Frag) (H : Hp) : D → V → Prop
  | .non, v => v = .non
  | .bl b, v => v = .bl b
  | .int i, v => v = .int i
  | .str l, v => v = .str (tx l)
  | .tnil, v => ∃ p, v = .ref p ∧ SqT K H p []
  | .tcons d r, v => ∃ p x xs, v = .ref p ∧ SqT K H p (x :: xs) ∧ Dp K H d x ∧ DpL K H r xs
def DpL (K : PySem.W.Frag) (H : Hp) : D → List V → Prop
  | .tnil, xs => xs = []
  | .tcons d r, xs => ∃ x ys, xs = x :: ys ∧ Dp K H d x ∧ DpL K H r ys
  | .non, _ => False
  | .bl _, _ => False
  | .int _, _ => False
  | .str _, _ => False
end
/-- tuples stay -/
def Ext (K : PySem.W.Frag) (H H' : Hp) : Prop := ∀ p xs, SqT K H p xs → SqT K H' p xs
mutual
theorem Dp.mono {K : PySem.W.Frag} {H H' : Hp} (e : Ext K H H') : ∀ {d : D} {v : V}, Dp K H d v → Dp K H' d v
  | .non, _, h => by unfold Dp at h ⊢; exact h
  | .bl _, _, h => by unfold Dp at h ⊢; exact h
  | .int _, _, h => by unfold Dp at h ⊢; exact h
  | .str _, _, h => by unfold Dp at h ⊢; exact h
  | .tnil, _, h => by unfold Dp at h ⊢; obtain ⟨p, e1, e2⟩ := h; exact ⟨p, e1, e _ _ e2⟩
  | .tcons d r, _, h => by unfold Dp at h ⊢; obtain ⟨p, x, xs, e1, e2, h1, h2⟩ := h; exact ⟨p, x, xs, e1, e _ _ e2, Dp.mono e h1, DpL.mono e h2⟩
theorem DpL.mono {K : PySem.W.Frag} {H H' : Hp} (e : Ext K H H') : ∀ {d : D} {v : List V}, DpL K H d v → DpL K H' d v
  | .non, _, h => by unfold DpL at h; exact h.elim
  | .bl _, _, h => by unfold DpL at h; exact h.elim
  | .int _, _, h => by unfold DpL at h; exact h.elim
  | .str _, _, h => by unfold DpL at h; exact h.elim
  | .tnil, _, h => by unfold DpL at h ⊢; exact h
  | .tcons d r, _, h => by unfold DpL at h ⊢; obtain ⟨x, xs, e1, h1, h2⟩ := h; exact ⟨x, xs, e1, Dp.mono e h1, DpL.mono e h2⟩
end
/-- a row of values -/
abbrev Dps (K : PySem.W.Frag) (H : Hp) : List D → List V → Prop := Paired fun d v => Dp K H d v
theorem Dps.mono {K : PySem.W.Frag} {H H' : Hp} (e : Ext K H H') : ∀ {ds : List D} {vs : List V}, Dps K H ds vs → Dps K H' ds vs
  | _, _, .nil => .nil
  | _, _, .cons h t => .cons (h.mono e) (Dps.mono e t)
theorem DpL.of {K : PySem.W.Frag} {H : Hp} : ∀ {ds : List D} {vs : List V}, Dps K H ds vs → DpL K H (D.tup ds) vs
  | _, _, .nil => by unfold D.tup DpL; rfl
  | _, _, .cons h t => by unfold D.tup DpL; exact ⟨_, _, rfl, h, DpL.of t⟩
theorem DpL.to {K : PySem.W.Frag} {H : Hp} : ∀ {ds : List D} {vs : List V}, DpL K H (D.tup ds) vs → Dps K H ds vs
  | [], _, h => by unfold D.tup DpL at h; subst h; exact .nil
  | d :: ds, _, h => by unfold D.tup DpL at h; obtain ⟨x, xs, rfl, h1, h2⟩ := h; exact .cons h1 (DpL.to h2)
/-- a tuple's value -/
theorem Dp.tupI {K : PySem.W.Frag} {H : Hp} {p : Addr} {vs : List V} {ds : List D} (h : SqT K H p vs) (hd : Dps K H ds vs) : Dp K H (D.tup ds) (.ref p) := by
  cases hd with
  | nil => unfold D.tup Dp; exact ⟨p, rfl, h⟩
  | cons a t => unfold D.tup Dp; exact ⟨p, _, _, rfl, h, a, DpL.of t⟩
theorem Dp.tupE {K : PySem.W.Frag} {H : Hp} {v : V} {ds : List D} (h : Dp K H (D.tup ds) v) : ∃ p vs, v = .ref p ∧ SqT K H p vs ∧ Dps K H ds vs := by
  cases ds with
  | nil => unfold D.tup Dp at h; obtain ⟨p, e, q⟩ := h; exact ⟨p, [], e, q, .nil⟩
  | cons d r => unfold D.tup Dp at h; obtain ⟨p, x, xs, e, q, h1, h2⟩ := h; exact ⟨p, _, e, q, .cons h1 (DpL.to h2)⟩

/-! ### how heaps go on -/
theorem SqT.same {K : PySem.W.Frag} {H H' : Hp} (e : Same H H') : Ext K H H' := fun p xs h => by
  rcases h with (h | ⟨o, h⟩) | h
  · exact .inl (.inl (e _ _ h))
  · exact .inl (.inr ⟨o, e _ _ h⟩)
  · exact .inr h
theorem same_new {H : Hp} {p : Addr} (h : H p = none) (o : HO) : Same H (upd H p o) := fun b u q => by rw [upd_ne (ne_of_none q h)]; exact q
/-- all but l is as it was -/
def But (l : Addr) (H H' : Hp) : Prop := ∀ b o, b ≠ l → H b = some o → H' b = some o
theorem But.refl {l : Addr} (H : Hp) : But l H H := fun _ _ _ h => h
theorem But.trans {l : Addr} {H H1 H2 : Hp} (a : But l H H1) (b : But l H1 H2) : But l H H2 := fun c o h q => b c o h (a c o h q)
theorem Same.but {l : Addr} {H H' : Hp} (a : Same H H') : But l H H' := fun b o _ q => a b o q
theorem but_upd {l : Addr} {H : Hp} {o : HO} : But l H (upd H l o) := fun b u h q => by rw [upd_ne h]; exact q
theorem SqT.but {K : PySem.W.Frag} {l : Addr} {xs : List V} {H H' : Hp} (e : But l H H') (hl : H l = some (.lst xs)) : Ext K H H' := fun p ys h => by
  have hne : ∀ {o : HO}, H p = some o → (∀ zs, o ≠ .lst zs) → p ≠ l := fun {o} q hn z => by subst z; rw [hl] at q; cases q; exact hn _ rfl
  rcases h with (h | ⟨o, h⟩) | h
  · exact .inl (.inl (e _ _ (hne h (fun _ z => by cases z)) h))
  · exact .inl (.inr ⟨o, e _ _ (hne h (fun _ z => by cases z)) h⟩)
  · exact .inr h
theorem Ext.refl {K : PySem.W.Frag} {H : Hp} : Ext K H H := fun _ _ h => h
theorem Ext.trans {K : PySem.W.Frag} {H H1 H2 : Hp} (a : Ext K H H1) (b : Ext K H1 H2) : Ext K H H2 := fun p xs h => b p xs (a p xs h)
theorem SqT.new {K : PySem.W.Frag} {H : Hp} {p : Addr} {xs : List V} : SqT K (upd H p (.tup xs)) p xs := SqT.of upd_same
/-- a list that is read stays, where it is not the one that changes -/
theorem SqL.but {K : PySem.W.Frag} {l a : Addr} {xs : List V} {H H' : Hp} (e : But l H H') (hne : a ≠ l) (h : SqL K H a xs) : SqL K H' a xs := by
  rcases h with (h | ⟨o, h⟩) | h
  · exact .inl (.inl (e _ _ hne h))
  · exact .inl (.inr ⟨o, e _ _ hne h⟩)
  · exact .inr h

/-! ### one call rule: what is known of a def -/
structure Has (P : Program) (w : World) (K : PySem.W.Frag) (mg : Str → Option Value) (base : Heap) (k : Nat) (x : Str) (ps : List Str) (sp : Sp) : Prop where
  ex : ∃ (f : Addr) (fd : FuncData), mg x = some (.ref f) ∧ PySem.W.keepIn K (.ref f) = true ∧ Binds K fd ps [] ∧ FnOk P w K mg base CX0 k f fd ps sp
theorem Has.mono {P : Program} {w : World} {K : PySem.W.Frag} {mg : Str → Option Value} {base : Heap} {j k : Nat} {x : Str} {ps : List Str} {sp : Sp} (h : Has P w K mg base j x ps sp) (hj : j ≤ k) : Has P w K mg base k x ps sp := by
  obtain ⟨f, fd, a, b, c, d⟩ := h.ex
  exact ⟨f, fd, a, b, c, d.mono hj⟩
theorem pe_has {X : Cx} {k : Nat} {x : Str} {ps : List Str} {sp : Sp} {p pos : Pos} {e : Expr} {es : List Expr} {t : TA} (F : Has X.prog X.w X.K X.mg X.base k x ps sp) (hr : Room k X.A) (ha : PA X (e :: es) t) (hg : Gl X x := by rfl) (hdb : (x == ("__debug__" : Str)) = false := by decide)
    (he : starEach (e :: es) X.env = (false, eval e X.env) :: starEach es X.env := by rfl) (hpl : (backTo pos (starEach es X.env)).any (·.1) = false := by rfl) :
    PE X (.Call (.Name x p) (e :: es) [] pos) (tCall sp [] E0 t) := by
  obtain ⟨f, fd, a, b, c, d⟩ := F.ex
  exact pe_call d hr hg a b c .nil pass0 ha hdb he hpl
theorem pe_has0 {X : Cx} {k : Nat} {x : Str} {ps : List Str} {sp : Sp} {p pos : Pos} (F : Has X.prog X.w X.K X.mg X.base k x ps sp) (hr : Room k X.A) (hg : Gl X x := by rfl) (hdb : (x == ("__debug__" : Str)) = false := by decide) :
    PE X (.Call (.Name x p) [] [] pos) (tCall sp [] E0 tNil) := by
  obtain ⟨f, fd, a, b, c, d⟩ := F.ex
  exact pe_call0 d hr hg a b c .nil pass0 hdb
/-- from the def's body to what is known of it -/
theorem has_mk {P : Program} {w : World} {K : PySem.W.Frag} {mg : Str → Option Value} {base : Heap} {k : Nat} {x : Str} {st : Stmt} {f : Addr} {fd : FuncData} {ps : List Str} {sp : Sp}
    (F : Fun K x x st f fd) (hm : mg x = some (.ref f))
    (hb : ∀ (kV doc pm : Value) (an : Option Addr) (cdv ct : Value) (us : List Value), us.length = ps.length → bindArgs (PySem.W.fnOf x x (defArgs st) (defBody st) (defScope st) .none kV doc pm an cdv ct) ⟨us, []⟩ = pure (ps.zip us))
    (ok : FnOk P w K mg base CX0 k f fd ps sp) : Has P w K mg base k x ps sp := ⟨f, fd, hm, F.kp, F.binds hb, ok⟩

/-! ### steps of a reading -/
theorem rd_seq {t u : TS} {D : Ends} {σ : St} {H : Hp} (h : t { D with nx := u D } σ H) : tSeq t u D σ H := h
end L2

namespace L2
open PySem PySem.Spec PyProof.Rows
/-- a constant of the module -/
theorem pe_gc {X : Cx} {x : Str} {v : V} {pos : Pos} (h : ∃ u, X.mg x = some u ∧ RelV v u) (hg : Gl X x := by rfl) (hd : (x == ("__debug__" : Str)) = false := by decide) : PE X (.Name x pos) (tC v) := by
  obtain ⟨u, a, b⟩ := h
  exact pe_glob hg a b hd
end L2

namespace L2
open PySem PySem.Spec PyProof.Rows
/-! ### methods of a tracked list, of a text -/
section
variable {X : Cx} {o e : Expr} {es : List Expr} {to : TE} {t : TA} {name : Str} {apos cpos : Pos} {id : String} {r : V → List V → Hp → VK → Prop}
def tML (r : V → List V → Hp → VK → Prop) (to : TE) (t : TA) : TE := fun σ H Q => to σ H fun x H1 => (∃ l ys, x = .ref l ∧ H1 l = some (.lst ys)) ∧ t σ H1 fun xs H2 => r x xs H2 Q
def tMS (r : V → List V → Hp → VK → Prop) (to : TE) (t : TA) : TE := fun σ H Q => to σ H fun x H1 => (∃ l, x = .str (tx l)) ∧ t σ H1 fun xs H2 => r x xs H2 Q
def tML0 (r : V → List V → Hp → VK → Prop) (to : TE) : TE := fun σ H Q => to σ H fun x H1 => (∃ l ys, x = .ref l ∧ H1 l = some (.lst ys)) ∧ r x [] H1 Q
theorem tyV_list {K : PySem.W.Frag} {x : V} {H : Hp} (h : ∃ l ys, x = .ref l ∧ H l = some (.lst ys)) : tyV K "list" x H := by
  obtain ⟨l, ys, rfl, h⟩ := h
  exact .inl ⟨rfl, _, .of h⟩
theorem tyV_str {K : PySem.W.Frag} {x : V} {H : Hp} (h : ∃ l, x = .str (tx l)) : tyV K "str" x H := by
  obtain ⟨l, rfl⟩ := h
  exact rfl
theorem pe_bmX {T : String} {ty : V → Hp → Prop} (hty' : ∀ x H, ty x H → tyV X.K T x H) (pa : PlainAttrs T) (slot : Slot T name id) (hty : typeOf (.builtin id) = pure (.type "method_descriptor")) (hm : MtR X id r) (ho : PE X o to) (ha : PA X (e :: es) t)
    (hbase : attributeBase o name X.env (eval o X.env) = eval o X.env)
    (hfew : ((backTo cpos (starEach (e :: es) X.env)).all (fun x => !x.1) && (backToKw cpos (keywordEach [] X.env)).all (fun x => x.1.isSome)
      && decide ((e :: es).length + ([] : List Keyword).length + (if ([] : List Keyword).isEmpty then 0 else 1) < 30)) = true)
    (hline : (apos.endLine == cpos.line) = true) (hs : starEach (e :: es) X.env = (false, eval e X.env) :: starEach es X.env) (hplain : (backTo cpos (starEach es X.env)).any (·.1) = false) :
    PE X (.Call (.Attribute o name apos) (e :: es) [] cpos) (fun σ H Q => to σ H fun x H1 => ty x H1 ∧ t σ H1 fun xs H2 => r x xs H2 Q) := by
  intro pins s σ H Q I h
  refine wpAny_Call_method_late hbase hfew hline rfl (thn (ho pins s σ H _ I h) fun v s1 ⟨x, H1, I1, r1, ty, q1⟩ => ?_)
  obtain ⟨h1, h2⟩ := tyV_is I1 r1 (hty' _ _ ty)
  refine ⟨T, id, pa, slot, hty, h1, h2, ?_⟩
  have hA := ha cpos pins s1 σ H1 _ I1 q1
  rw [hs] at hA ⊢
  refine Calls.callWith_builtin (by show (false || (backTo cpos (starEach es X.env)).any (·.1)) = false; rw [hplain] <;> rfl) (Calls.evalArgs_plain ?_)
  exact thn hA fun us s2 ⟨vs, H2, I2, r2, q2⟩ => hm pins s2 σ H2 x vs v us Q I2 r1 r2 q2
theorem pe_ml (slot : Slot "list" name id) (hty : typeOf (.builtin id) = pure (.type "method_descriptor")) (hm : MtR X id r) (ho : PE X o to) (ha : PA X (e :: es) t)
    (hbase : attributeBase o name X.env (eval o X.env) = eval o X.env := by rfl)
    (hfew : ((backTo cpos (starEach (e :: es) X.env)).all (fun x => !x.1) && (backToKw cpos (keywordEach [] X.env)).all (fun x => x.1.isSome)
      && decide ((e :: es).length + ([] : List Keyword).length + (if ([] : List Keyword).isEmpty then 0 else 1) < 30)) = true := by rfl)
    (hline : (apos.endLine == cpos.line) = true := by rfl) (hs : starEach (e :: es) X.env = (false, eval e X.env) :: starEach es X.env := by rfl) (hplain : (backTo cpos (starEach es X.env)).any (·.1) = false := by rfl) :
    PE X (.Call (.Attribute o name apos) (e :: es) [] cpos) (tML r to t) := pe_bmX (ty := fun x H1 => ∃ l ys, x = .ref l ∧ H1 l = some (.lst ys)) (fun _ _ h => tyV_list h) F.plainAttrs_list slot hty hm ho ha hbase hfew hline hs hplain
theorem pe_ms (slot : Slot "str" name id) (hty : typeOf (.builtin id) = pure (.type "method_descriptor")) (hm : MtR X id r) (ho : PE X o to) (ha : PA X (e :: es) t)
    (hbase : attributeBase o name X.env (eval o X.env) = eval o X.env := by rfl)
    (hfew : ((backTo cpos (starEach (e :: es) X.env)).all (fun x => !x.1) && (backToKw cpos (keywordEach [] X.env)).all (fun x => x.1.isSome)
      && decide ((e :: es).length + ([] : List Keyword).length + (if ([] : List Keyword).isEmpty then 0 else 1) < 30)) = true := by rfl)
    (hline : (apos.endLine == cpos.line) = true := by rfl) (hs : starEach (e :: es) X.env = (false, eval e X.env) :: starEach es X.env := by rfl) (hplain : (backTo cpos (starEach es X.env)).any (·.1) = false := by rfl) :
    PE X (.Call (.Attribute o name apos) (e :: es) [] cpos) (tMS r to t) := pe_bmX (ty := fun x H1 => ∃ l, x = .str (tx l)) (fun _ _ h => tyV_str h) F.plainAttrs_str slot hty hm ho ha hbase hfew hline hs hplain
theorem pe_ml0 (slot : Slot "list" name id) (hty : typeOf (.builtin id) = pure (.type "method_descriptor")) (hm : MtR X id r) (ho : PE X o to)
    (hbase : attributeBase o name X.env (eval o X.env) = eval o X.env := by rfl) (hline : (apos.endLine == cpos.line) = true := by rfl) : PE X (.Call (.Attribute o name apos) [] [] cpos) (tML0 r to) := by
  intro pins s σ H Q I h
  refine wpAny_Call_method0_late hbase hline (thn (ho pins s σ H _ I h) fun v s1 ⟨x, H1, I1, r1, ty, q1⟩ => ?_)
  obtain ⟨h1, h2⟩ := tyV_is I1 r1 (tyV_list ty)
  exact ⟨"list", id, F.plainAttrs_list, slot, hty, h1, h2, Calls.callWith_builtin rfl (PySem.evalArgs_none (hm pins s1 σ H1 x [] v [] Q I1 r1 .nil q1))⟩
end
end L2

namespace L2
open PySem PySem.Spec PyProof.Rows
theorem cutN_upto {l : List Nat} {k : Int} (h0 : 0 ≤ k) : cutN l none (some k) = l.take k.toNat := by
  unfold cutN HT.sIx
  simp only [List.drop_zero, Nat.sub_zero]
  rw [if_neg (by omega)]
  by_cases h : k.toNat ≤ l.length
  · rw [Nat.min_eq_left h]
  · rw [Nat.min_eq_right (by omega), List.take_of_length_le (Nat.le_refl _), List.take_of_length_le (by omega)]
theorem cutN_from {l : List Nat} {k : Int} (h0 : 0 ≤ k) : cutN l (some k) none = l.drop k.toNat := by
  unfold cutN HT.sIx
  simp only
  rw [if_neg (by omega), List.take_of_length_le (by simp)]
  by_cases h : k.toNat ≤ l.length
  · rw [Nat.min_eq_left h]
  · rw [Nat.min_eq_right (by omega), List.drop_of_length_le (Nat.le_refl _), List.drop_of_length_le (by omega)]
theorem cutN_all (l : List Nat) : cutN l none none = l := by unfold cutN HT.sIx; simp
end L2

namespace L2
open PySem PySem.Spec PyProof.Rows
/-! ### the same rules with the heap behind as a letter -/
section
variable {X : Cx} {e : Expr} {es : List Expr} {te : TE} {t : TA} {pos : Pos}
def tTupF (t : TA) : TE := fun σ H Q => t σ H fun xs H1 => xs.length ≤ sizeLine ∧ ∀ p H2, H1 p = none → H2 = upd H1 p (.tup xs) → Q (.ref p) H2
def tLstF (t : TA) : TE := fun σ H Q => t σ H fun xs H1 => xs.length ≤ sizeLine ∧ ∀ p H2, H1 p = none → H2 = upd H1 p (.lst xs) → Q (.ref p) H2
theorem pe_tupF {x1} (h : PA X es t) : PE X (.Tuple es x1 pos) (tTupF t) := by
  intro pins s σ H Q I hq
  refine wpAny_Tuple_spliced (thn (h pos pins s σ H _ I hq) fun us s1 ⟨xs, H1, I1, r, z, q⟩ => ⟨by rw [← r.length]; exact z, ?_⟩)
  have hf : H1 s1.heap.objs.size = none := I1.hok.fresh (Nat.le_refl _)
  refine ⟨.ref s1.heap.objs.size, upd H1 s1.heap.objs.size (.tup xs), I1.laid (t' := s1.toks) (fun b u e => Heap.get?_push_of_some _ e) (Nat.le_refl _) ?_, rfl, q _ _ hf rfl⟩
  exact ⟨z, us, r, ⟨_, Heap.get?_push_size _ rfl, rfl, _, rfl⟩⟩
theorem pe_lstF (h : PA X es t) : PE X (.List es pos) (tLstF t) := by
  intro pins s σ H Q I hq
  refine wpAny_List_spliced (thn (h pos pins s σ H _ I hq) fun us s1 ⟨xs, H1, I1, r, z, q⟩ => ⟨by rw [← r.length]; exact z, ?_⟩)
  have hf : H1 s1.heap.objs.size = none := I1.hok.fresh (Nat.le_refl _)
  refine ⟨.ref s1.heap.objs.size, upd H1 s1.heap.objs.size (.lst xs), I1.laid (t' := s1.toks) (fun b u e => Heap.get?_push_of_some _ e) (Nat.le_refl _) ?_, rfl, q _ _ hf rfl⟩
  exact ⟨z, us, 0, r, Heap.get?_push_size _ rfl⟩
theorem MtR.imp {id : String} {r r' : V → List V → Hp → VK → Prop} (h : MtR X id r) (i : ∀ x xs H Q, r' x xs H Q → r x xs H Q) : MtR X id r' := fun pins s σ H x xs v us Q I rx rv q => h pins s σ H x xs v us Q I rx rv (i _ _ _ _ q)
theorem CallR.imp {f : Value} {r r' : List V → Hp → VK → Prop} (h : CallR X f r) (i : ∀ xs H Q, r' xs H Q → r xs H Q) : CallR X f r' := fun pins s σ H xs us Q I rv q => h pins s σ H xs us Q I rv (i _ _ _ q)
theorem OpR.imp {f : Value → Value → Sem Value} {r r' : R2} (h : OpR X f r) (i : ∀ x y H Q, r' x y H Q → r x y H Q) : OpR X f r' := fun pins s σ H x y v u Q I rx ry q => h pins s σ H x y v u Q I rx ry (i _ _ _ _ q)
theorem SlR.imp {r r' : V → Option Int → Option Int → Hp → VK → Prop} (h : SlR X r) (i : ∀ x lo hi H Q, r' x lo hi H Q → r x lo hi H Q) : SlR X r' := fun pins s σ H x v vl vu lo hi sl Q I rx hs pl pu q => h pins s σ H x v vl vu lo hi sl Q I rx hs pl pu (i _ _ _ _ _ q)
def rAppendF : V → List V → Hp → VK → Prop := fun x vs H Q => ∃ l xs y, x = .ref l ∧ vs = [y] ∧ H l = some (.lst xs) ∧ xs.length < sizeLine ∧ ∀ H2, H2 = upd H l (.lst (xs ++ [y])) → Q .non H2
theorem mt_appendF : MtR X "list.append" rAppendF := MtR.imp (r := rAppend) mt_append fun _ _ _ _ ⟨l, xs, y, a, b, c, d, q⟩ => ⟨l, xs, y, a, b, c, d, q _ rfl⟩
def rPopF : V → List V → Hp → VK → Prop := fun x vs H Q => ∃ l xs y, x = .ref l ∧ vs = [] ∧ H l = some (.lst (xs ++ [y])) ∧ ∀ H2, H2 = upd H l (.lst xs) → Q y H2
theorem mt_popF : MtR X "list.pop" rPopF := MtR.imp (r := rPop) mt_pop fun _ _ _ _ ⟨l, xs, y, a, b, c, q⟩ => ⟨l, xs ++ [y], y, a, b, c, by simp, by rw [List.dropLast_concat]; exact q _ rfl⟩
def rSetLF : V → V → V → Hp → (Hp → Prop) → Prop := fun o i v H Q => ∃ p xs k j, o = .ref p ∧ i = .int k ∧ H p = some (.lst xs) ∧ ixN xs.length k = some j ∧ ∀ H2, H2 = upd H p (.lst (xs.set j v)) → Q H2
theorem set_listF : PSet X rSetLF := fun pins s σ H o i v ov iv u Q I r1 r2 r3 q => by
  obtain ⟨p, xs, k, j, a, b, c, d, q⟩ := q
  exact set_list pins s σ H o i v ov iv u Q I r1 r2 r3 ⟨p, xs, k, j, a, b, c, d, q _ rfl⟩
def rTupleOf (K : PySem.W.Frag) : List V → Hp → VK → Prop := fun xs H Q => ∃ p ys, xs = [.ref p] ∧ SqL K H p ys ∧ ∀ l H2, H l = none → H2 = upd H l (.tup ys) → Q (.ref l) H2
theorem call_tupleL : CallR X (.type "tuple") (rTupleOf X.K) := CallR.imp call_tuple_of fun _ _ _ ⟨p, ys, a, b, q⟩ => ⟨p, ys, a, .inl ⟨b, fun l hl => q l _ hl rfl⟩⟩
def rListOf (K : PySem.W.Frag) : List V → Hp → VK → Prop := fun xs H Q => ∃ p ys, xs = [.ref p] ∧ (SqL K H p ys ∨ SqT K H p ys) ∧ ∀ l H2, H l = none → H2 = upd H l (.lst ys) → Q (.ref l) H2
theorem call_listF : CallR X (.type "list") (rListOf X.K) := CallR.imp call_list_of fun _ _ _ ⟨p, ys, a, b, q⟩ => ⟨p, ys, a, b, fun l hl => q l _ hl rfl⟩
def rCatF : R2 := fun x y H Q => ∃ l b xs zs, x = .ref l ∧ y = .ref b ∧ H l = some (.lst xs) ∧ H b = some (.lst zs) ∧ xs.length + zs.length ≤ sizeLine ∧ ∀ p H2, H p = none → H2 = upd H p (.lst (xs ++ zs)) → Q (.ref p) H2
theorem op_catF : OpR X (binaryOp .Add) rCatF := OpR.imp op_cat fun _ _ _ _ ⟨l, b, xs, zs, h1, h2, h3, h4, h5, q⟩ => ⟨l, b, xs, zs, h1, h2, h3, h4, h5, fun p hp => q p _ hp rfl⟩
end
end L2

namespace L2
open PySem PySem.Spec PyProof.Rows
theorem scal_ss (a b : Str) : scal (.str a) (.str b) = true := rfl
theorem scal_ii (a b : Int) : scal (.int a) (.int b) = true := rfl
theorem scal_bb (a b : Bool) : scal (.bl a) (.bl b) = true := rfl
theorem V_int_eq (a b : Int) : (decide (V.int a = V.int b)) = decide (a = b) := by
  by_cases h : a = b
  · subst h; simp
  · rw [decide_eq_false h, decide_eq_false]
    intro e; injection e with e; exact h e
theorem V_bl_eq (a b : Bool) : (decide (V.bl a = V.bl b)) = decide (a = b) := by cases a <;> cases b <;> rfl
theorem if_tt {c : Bool} {A B : Prop} (h : c = true) (a : A) : if c = true then A else B := by rw [if_pos h]; exact a
theorem if_ff {c : Bool} {A B : Prop} (h : c = false) (b : B) : if c = true then A else B := by rw [if_neg (by rw [h]; exact Bool.false_ne_true)]; exact b
end L2

namespace L2
open PySem PySem.Spec PyProof.Rows
/-! ### isinstance of whole values -/
def tyName : D → String
  | .non => "NoneType" | .bl _ => "bool" | .int _ => "int" | .str _ => "str" | .tnil => "tuple" | .tcons _ _ => "tuple"
def isiD (d : D) (T : String) : Bool := (tyName d == T) || (tyName d == "bool" && T == "int")
def knownT (T : String) : Prop := T = "tuple" ∨ T = "bool" ∨ T = "int" ∨ T = "str"
theorem kit_D {K : PySem.W.Frag} {T : String} (h : knownT T) (d : D) : PySem.W.kitOne K (.type (tyName d)) (.type T) = some (isiD d T) := by
  rcases h with rfl | rfl | rfl | rfl <;> cases d <;> rfl
theorem DpL.ex {K : PySem.W.Frag} {H : Hp} : ∀ {d : D} {xs : List V}, DpL K H d xs → ∃ ds, d = D.tup ds ∧ Dps K H ds xs
  | .tnil, xs, h => by unfold DpL at h; subst h; exact ⟨[], rfl, .nil⟩
  | .tcons d r, xs, h => by
    unfold DpL at h
    obtain ⟨x, ys, rfl, h1, h2⟩ := h
    obtain ⟨ds, rfl, hd⟩ := DpL.ex h2
    exact ⟨d :: ds, rfl, .cons h1 hd⟩
  | .non, _, h => by unfold DpL at h; exact h.elim
  | .bl _, _, h => by unfold DpL at h; exact h.elim
  | .int _, _, h => by unfold DpL at h; exact h.elim
  | .str _, _, h => by unfold DpL at h; exact h.elim
theorem Dp.exT {K : PySem.W.Frag} {H : Hp} {d : D} {v : V} (h : Dp K H d v) (ht : tyName d = "tuple") : ∃ p vs ds, v = .ref p ∧ SqT K H p vs ∧ Dps K H ds vs ∧ d = D.tup ds := by
  cases d with
  | tnil => unfold Dp at h; obtain ⟨p, e, q⟩ := h; exact ⟨p, [], [], e, q, .nil, rfl⟩
  | tcons d r =>
    unfold Dp at h
    obtain ⟨p, x, xs, e, q, h1, h2⟩ := h
    obtain ⟨ds, rfl, hd⟩ := DpL.ex h2
    exact ⟨p, _, d :: ds, e, q, .cons h1 hd, rfl⟩
  | _ => exact absurd ht (by simp [tyName])
def rIsi (K : PySem.W.Frag) : List V → Hp → VK → Prop := fun xs H Q => ∃ x T d, xs = [x, .ty T] ∧ Dp K H d x ∧ knownT T ∧ Q (.bl (isiD d T)) H
theorem call_isiD {X : Cx} : CallR X (.builtin "isinstance") (rIsi X.K) := by
  intro pins s σ H xs us Q I r h
  obtain ⟨x, T, d, rfl, hd, hT, q⟩ := h
  obtain ⟨u, u2, rfl, r1, r2⟩ := Vals.two r
  obtain rfl : u2 = .type T := r2
  have e := kit_D (K := X.K) hT d
  by_cases ht : tyName d = "tuple"
  · obtain ⟨p, vs, ds, rfl, hS, _, _⟩ := hd.exT ht
    cases (show u = Value.ref p from r1)
    obtain ⟨its, _, hp, _⟩ := I.tuple hS
    obtain ⟨o, h1, h2, _⟩ := hp
    rw [ht] at e
    exact PySem.W.kia_one PySem.W.kitx_tuple I.kIn ⟨o, h1, h2⟩ e (fun z => nomatch z) fun tk => ⟨.bl _, H, I.tok tk, rfl, q⟩
  · cases d with
    | non => unfold Dp at hd; subst hd; exact isinst_ok I r1 .non e fun tk => ⟨.bl _, H, I.tok tk, rfl, q⟩
    | bl b => unfold Dp at hd; subst hd; exact isinst_ok I r1 (.bl _) e fun tk => ⟨.bl _, H, I.tok tk, rfl, q⟩
    | int b => unfold Dp at hd; subst hd; exact isinst_ok I r1 (.int _) e fun tk => ⟨.bl _, H, I.tok tk, rfl, q⟩
    | str b => unfold Dp at hd; subst hd; exact isinst_ok I r1 (.str _) e fun tk => ⟨.bl _, H, I.tok tk, rfl, q⟩
    | tnil => exact absurd rfl ht
    | tcons a b => exact absurd rfl ht
def D.dep : D → Nat
  | .tcons d r => max (d.dep + 1) r.dep
  | _ => 1
theorem D.dep_pos : ∀ d : D, 1 ≤ d.dep
  | .tcons d r => by unfold D.dep; have := D.dep_pos r; omega
  | .non => Nat.le_refl _
  | .bl _ => Nat.le_refl _
  | .int _ => Nat.le_refl _
  | .str _ => Nat.le_refl _
  | .tnil => Nat.le_refl _
theorem D.dep_mem : ∀ {ds : List D} {d : D}, d ∈ ds → d.dep + 1 ≤ (D.tup ds).dep
  | x :: ds, d, h => by
    have e : (D.tup (x :: ds)).dep = max (x.dep + 1) (D.tup ds).dep := rfl
    rw [e]
    rcases List.mem_cons.mp h with rfl | h
    · omega
    · have := D.dep_mem h; omega
theorem D.tup_inj : ∀ {a b : List D}, D.tup a = D.tup b ↔ a = b
  | [], [] => by simp
  | [], y :: b => by simp [D.tup]
  | x :: a, [] => by simp [D.tup]
  | x :: a, y :: b => by unfold D.tup; rw [D.tcons.injEq, D.tup_inj, List.cons.injEq]
theorem Dps.get {K : PySem.W.Frag} {H : Hp} : ∀ {ds : List D} {vs : List V} {i : Nat} {d : D}, Dps K H ds vs → ds[i]? = some d → ∃ v, vs[i]? = some v ∧ Dp K H d v
  | _, _, _, _, .nil, e => by simp at e
  | _, _, 0, _, .cons r _, e => by simp at e; subst e; exact ⟨_, rfl, r⟩
  | _, _, i + 1, d, .cons _ t, e => by
    obtain ⟨u, h1, h2⟩ := Dps.get (i := i) (d := d) t (by simpa using e)
    exact ⟨u, by simpa using h1, h2⟩
end L2

namespace L2
def D.size : D → Nat
  | .tcons d r => d.size + r.size + 1
  | _ => 1
theorem D.size_tup (ds : List D) : ds.length ≤ (D.tup ds).size := by
  induction ds with
  | nil => exact Nat.zero_le _
  | cons d r ih => show r.length + 1 ≤ d.size + (D.tup r).size + 1; omega
theorem D.size_mem : ∀ {ds : List D} {d : D}, d ∈ ds → d.size ≤ (D.tup ds).size
  | x :: ds, d, h => by
    have e : (D.tup (x :: ds)).size = x.size + (D.tup ds).size + 1 := rfl
    rw [e]
    rcases List.mem_cons.mp h with rfl | h
    · omega
    · have := D.size_mem h; omega
end L2

namespace L2
open PySem PySem.Spec PyProof.Rows
/-! ### a display of written texts at once -/
inductive CS : List Expr → List Str → Prop where
  | nil : CS [] []
  | cons {x : Str} {j : Nat} {p : Pos} {r : List Expr} {zs : List Str} : CS r zs → CS (.Constant (.str x) j p :: r) (x :: zs)
def tStrs (zs : List Str) : TA := fun _ H Q => Q (zs.map V.str) H
theorem pa_strs {X : Cx} {es : List Expr} {zs : List Str} (h : CS es zs) : PA X es (tStrs zs) := by
  induction h with
  | nil => exact pa_nil
  | @cons x j p r zs _ ih =>
    intro pos pins s σ H Q I hq
    exact pa_cons (X := X) (pe_str (X := X) (x := x) (j := j) (pos := p)) ih (by rfl) pos pins s σ H Q I hq
end L2
set_option Elab.async false
set_option linter.all false
set_option maxRecDepth 100000
set_option maxHeartbeats 4000000
/-! The layer's judgements as structures (a def's body is then read a hundred times faster), and its rules once more over them. -/
namespace L2
open PySem PySem.Spec PyProof.Rows
structure QE (X : Cx) (e : Expr) (t : TE) : Prop where
  h : PE X e t
structure QT (X : Cx) (e : Expr) (t : TT) : Prop where
  h : PT X e t
structure QW (X : Cx) (e : Expr) (t : TT) : Prop where
  h : PW X e t
structure QA (X : Cx) (es : List Expr) (t : TA) : Prop where
  h : PA X es t
structure QS (X : Cx) (s : Stmt) (t : TS) : Prop where
  h : PS X s t
structure QB (X : Cx) (s : List Stmt) (t : TS) : Prop where
  h : PSs X s t
structure QG (X : Cx) (e : Expr) (t : TG) : Prop where
  h : PG X e t
structure QGs (X : Cx) (e : List Expr) (t : TGs) : Prop where
  h : PGs X e t
structure QI (X : Cx) (tg it : Expr) (t : TI) : Prop where
  h : PI X tg it t
structure QO (X : Cx) (e : Option Expr) (t : TO) : Prop where
  h : PO X e t
structure QTs (X : Cx) (es : List Expr) (t : TT) : Prop where
  h : PTs X es t
/-- rules at one operation, wrapped -/
structure ROp (X : Cx) (f : Value → Value → Sem Value) (r : R2) : Prop where
  h : OpR X f r
structure RUn (X : Cx) (f : Value → Sem Value) (r : V → Hp → VK → Prop) : Prop where
  h : UnR X f r
structure RCall (X : Cx) (f : Value) (r : List V → Hp → VK → Prop) : Prop where
  h : CallR X f r
structure RMt (X : Cx) (id : String) (r : V → List V → Hp → VK → Prop) : Prop where
  h : MtR X id r
structure RIx (X : Cx) (r : R2) : Prop where
  h : IxR X r
structure RSl (X : Cx) (r : V → Option Int → Option Int → Hp → VK → Prop) : Prop where
  h : SlR X r
structure RSet (X : Cx) (t : TSet) : Prop where
  h : PSet X t
section
variable {X : Cx} {a b c e o : Expr} {es : List Expr} {ta tb tc te to : TE} {t u : TA} {pos p p2 apos cpos : Pos} {x name : Str} {j : Nat} {tA tB' : TT} {rest : List Expr}
/-! ### operations -/
theorem o_add : ROp X (binaryOp .Add) (rI0 fun i j => .int (i + j)) := ⟨op_add⟩
theorem o_sub : ROp X (binaryOp .Sub) (rI0 fun i j => .int (i - j)) := ⟨op_sub⟩
theorem o_mul : ROp X (binaryOp .Mult) (rI CMul fun i j => .int (i * j)) := ⟨op_mul⟩
theorem o_mod : ROp X (binaryOp .Mod) (rI (fun _ j => 0 < j) fun i j => .int (i % j)) := ⟨op_mod⟩
theorem o_fdiv : ROp X (binaryOp .FloorDiv) (rI CDiv fun i j => .int (i / j)) := ⟨op_fdiv⟩
theorem o_pow : ROp X (binaryOp .Pow) (rI CPow fun i j => .int (i ^ j.toNat)) := ⟨op_pow⟩
theorem o_shl : ROp X (binaryOp .LShift) (rI CPow fun i j => .int (i * 2 ^ j.toNat)) := ⟨op_shl⟩
theorem o_shr : ROp X (binaryOp .RShift) (rI (fun _ j => 0 ≤ j) fun i j => .int (i / 2 ^ j.toNat)) := ⟨op_shr⟩
theorem o_and : ROp X (binaryOp .BitAnd) (rI0 fun i j => .int (Builtin.bitAnd i j)) := ⟨op_and⟩
def rAddS : R2 := fun x y H Q => ∃ i j, x = .str i ∧ y = .str j ∧ i.length + j.length ≤ sizeLine ∧ Q (.str (i ++ j)) H
theorem o_add_str : ROp X (binaryOp .Add) rAddS := ⟨op_add_str⟩
theorem o_cat : ROp X (binaryOp .Add) rCatF := ⟨op_catF⟩
theorem o_catT : ROp X (binaryOp .Add) (rCatT X.K) := ⟨op_catT⟩
theorem o_eq : ROp X (compareOp .Eq) rEq := ⟨op_eq⟩
theorem o_ne : ROp X (compareOp .NotEq) rNe := ⟨op_ne⟩
theorem o_lt : ROp X (compareOp .Lt) (rI0 fun i j => .bl (decide (i < j))) := ⟨op_lt⟩
theorem o_le : ROp X (compareOp .LtE) (rI0 fun i j => .bl (decide (i ≤ j))) := ⟨op_le⟩
theorem o_gt : ROp X (compareOp .Gt) (rI0 fun i j => .bl (decide (j < i))) := ⟨op_gt⟩
theorem o_ge : ROp X (compareOp .GtE) (rI0 fun i j => .bl (decide (j ≤ i))) := ⟨op_ge⟩
def rLe1 : R2 := fun x y H Q => ∃ c d, x = .str (tx [c]) ∧ y = .str (tx [d]) ∧ Q (.bl (decide (c ≤ d))) H
theorem o_le_one : ROp X (compareOp .LtE) rLe1 := ⟨op_le_one⟩
theorem o_in_one : ROp X (compareOp .In) (rInS false) := ⟨op_in_one⟩
theorem o_notin_one : ROp X (compareOp .NotIn) (rInS true) := ⟨op_notin_one⟩
theorem o_in_seq : ROp X (compareOp .In) (rIn X.K false) := ⟨op_in_seq⟩
theorem o_notIn_seq : ROp X (compareOp .NotIn) (rIn X.K true) := ⟨op_notIn_seq⟩
theorem u_neg : RUn X (unaryOp .USub) (rU fun i => .int (-i)) := ⟨un_neg⟩
/-! ### calls and methods -/
def rLenQ (K : PySem.W.Frag) : List V → Hp → VK → Prop := fun xs H Q => ∃ p ys, xs = [.ref p] ∧ (SqL K H p ys ∨ SqT K H p ys) ∧ Q (.int ys.length) H
theorem c_len_seq : RCall X (.builtin "len") (rLenQ X.K) := ⟨call_len_seq⟩
def rLenS : List V → Hp → VK → Prop := fun xs H Q => ∃ z : Str, xs = [.str z] ∧ z.length ≤ sizeLine ∧ Q (.int z.length) H
theorem c_len_str : RCall X (.builtin "len") rLenS := ⟨call_len_str⟩
def rMax : List V → Hp → VK → Prop := fun xs H Q => ∃ i j, xs = [.int i, .int j] ∧ Q (.int (if j > i then j else i)) H
def rMin : List V → Hp → VK → Prop := fun xs H Q => ∃ i j, xs = [.int i, .int j] ∧ Q (.int (if j < i then j else i)) H
theorem c_max (hc : X.calm = true := by rfl) : RCall X (.builtin "max") rMax := ⟨call_max2 hc⟩
theorem c_min (hc : X.calm = true := by rfl) : RCall X (.builtin "min") rMin := ⟨call_min2 hc⟩
theorem c_isi : RCall X (.builtin "isinstance") (rIsi X.K) := ⟨call_isiD⟩
def rOrd : List V → Hp → VK → Prop := fun xs H Q => ∃ x : Str, xs = [.str x] ∧ x.length = 1 ∧ Q (.int (x.cps.getD 0 0 : Nat)) H
theorem c_ord : RCall X (.builtin "ord") rOrd := ⟨call_ord⟩
def rInt1 : List V → Hp → VK → Prop := fun xs H Q => (∃ i, xs = [.int i] ∧ Q (.int i) H) ∨ ∃ k : Bool, xs = [.bl k] ∧ Q (.int (if k then 1 else 0)) H
theorem c_int : RCall X (.type "int") rInt1 := ⟨call_int1⟩
theorem c_tuple : RCall X (.type "tuple") (rTupleOf X.K) := ⟨call_tupleL⟩
theorem c_list : RCall X (.type "list") (rListOf X.K) := ⟨call_listF⟩
theorem m_append : RMt X "list.append" rAppendF := ⟨mt_appendF⟩
theorem m_pop : RMt X "list.pop" rPopF := ⟨mt_popF⟩
theorem m_join : RMt X "str.join" (rJoin X.K) := ⟨mt_join⟩
theorem i_list : RIx X (rIxL X.K) := ⟨ix_list⟩
theorem i_tup : RIx X (rIxT X.K) := ⟨ix_tup⟩
theorem i_str : RIx X rIxS := ⟨ix_str⟩
theorem l_str : RSl X rSlS := ⟨sl_str⟩
theorem l_list : RSl X (rSlL X.K) := ⟨sl_list⟩
theorem l_tup : RSl X (rSlT X.K) := ⟨sl_tup⟩
theorem s_list : RSet X rSetLF := ⟨set_listF⟩
/-! ### expressions -/
theorem qv (i : Nat) {x : Str} {pos : Pos} (hN : X.N[i]? = some x := by rfl) (hv : Vis X.env.scope x := by first | exact Or.inl rfl | exact Or.inr (Or.inl rfl) | exact Or.inr (Or.inr rfl)) (hd : (x == ("__debug__" : Str)) = false := by decide)
    (hcd : (x == ("__classdict__" : Str)) = false := by decide) : QE X (.Name x pos) (tVar i) := ⟨pv i hN hv hd hcd⟩
theorem q_int {i : Int} : QE X (.Constant (.int i) j pos) (tC (.int i)) := ⟨pe_int⟩
theorem q_bl {k : Bool} : QE X (.Constant (.bool k) j pos) (tC (.bl k)) := ⟨pe_bl⟩
theorem q_non : QE X (.Constant .none j pos) (tC .non) := ⟨pe_non⟩
theorem q_str : QE X (.Constant (.str x) j pos) (tC (.str x)) := ⟨pe_str⟩
theorem q_gc {v : V} (h : ∃ u, X.mg x = some u ∧ RelV v u) (hg : Gl X x := by rfl) (hd : (x == ("__debug__" : Str)) = false := by decide) : QE X (.Name x pos) (tC v) := ⟨pe_gc h hg hd⟩
theorem q_ty {T : String} (hm : X.mg x = none) (hv : bootBuiltins x = some (.type T)) (hg : Gl X x := by rfl) (hn : x ≠ "__name__" := by decide) (hd : (x == ("__debug__" : Str)) = false := by decide) : QE X (.Name x pos) (tC (.ty T)) := ⟨pe_bltn hg hm hv rfl hn hd⟩
theorem q_op {op : Operator} {r : R2} (ho : ROp X (binaryOp op) r) (ha : QE X a ta) (hb : QE X b tb) : QE X (.BinOp a op b pos) (tOp r ta tb) := ⟨pe_op ho.h ha.h hb.h⟩
theorem q_un {op : UnaryOp} {r : V → Hp → VK → Prop} (ho : RUn X (unaryOp op) r) (ha : QE X a ta) : QE X (.UnaryOp op a pos) (tUn r ta) := ⟨pe_un ho.h ha.h⟩
theorem q_cmp {op : CmpOp} {r : R2} (ho : ROp X (compareOp op) r) (ha : QE X a ta) (hb : QE X b tb) (hm : behindInMarks op b = false := by first | exact nomark _ | rfl) : QE X (.Compare a [op] [b] pos) (tOp r ta tb) := ⟨pe_cmpR ho.h ha.h hb.h hm⟩
theorem qt_cmp {op : CmpOp} {r : R2} (ho : ROp X (compareOp op) r) (ha : QE X a ta) (hb : QE X b tb) (hm : behindInMarks op b = false := by first | exact nomark _ | rfl) : QT X (.Compare a [op] [b] pos) (tTest (tOp r ta tb)) := ⟨pt_cmpR ho.h ha.h hb.h hm⟩
theorem q_chain {op op' : CmpOp} {r r' : R2} (ho : ROp X (compareOp op) r) (ho' : ROp X (compareOp op') r') (ha : QE X a ta) (hb : QE X b tb) (hc : QE X c tc) (hm : lastMarks [op, op'] [b, c] = false := by with_unfolding_all rfl) : QE X (.Compare a [op, op'] [b, c] pos) (tChain r r' ta tb tc) := ⟨pe_chain ho.h ho'.h ha.h hb.h hc.h hm⟩
theorem qt_chain {op op' : CmpOp} {r r' : R2} (ho : ROp X (compareOp op) r) (ho' : ROp X (compareOp op') r') (ha : QE X a ta) (hb : QE X b tb) (hc : QE X c tc) (hm : lastMarks [op, op'] [b, c] = false := by with_unfolding_all rfl) : QT X (.Compare a [op, op'] [b, c] pos) (tTest (tChain r r' ta tb tc)) := ⟨pt_chain ho.h ho'.h ha.h hb.h hc.h hm⟩
theorem q_isN {pos' : Pos} (ha : QE X a ta) : QE X (.Compare a [.Is] [.Constant .none j pos'] pos) (tIsN ta) := ⟨pe_cmp (pc_isN ha.h)⟩
theorem q_notN {pos' : Pos} (ha : QE X a ta) : QE X (.Compare a [.IsNot] [.Constant .none j pos'] pos) (tNotN ta) := ⟨pe_cmp (pc_notN ha.h)⟩
theorem qt_isN {pos' : Pos} (ha : QE X a ta) : QT X (.Compare a [.Is] [.Constant .none j pos'] pos) (tB (tIsN ta)) := ⟨pt_cmp (pc_isN ha.h)⟩
theorem qt_notN {pos' : Pos} (ha : QE X a ta) : QT X (.Compare a [.IsNot] [.Constant .none j pos'] pos) (tB (tNotN ta)) := ⟨pt_cmp (pc_notN ha.h)⟩
theorem q_one {op : BoolOp} (h : QE X a ta) : QE X (.BoolOp op [a] pos) ta := ⟨pe_one h.h⟩
theorem q_and (ha : QE X a ta) (hb : QE X (.BoolOp .And (b :: rest) pos) tb) : QE X (.BoolOp .And (a :: b :: rest) pos) (tAndV ta tb) := ⟨pe_and ha.h hb.h⟩
theorem q_or (ha : QE X a ta) (hb : QE X (.BoolOp .Or (b :: rest) pos) tb) : QE X (.BoolOp .Or (a :: b :: rest) pos) (tOrV ta tb) := ⟨pe_or ha.h hb.h⟩
theorem q_not (ha : QE X a ta) : QE X (.UnaryOp .Not a pos) (tNotV ta) := ⟨pe_not ha.h⟩
theorem q_ifExp (hc : QT X c tA) (ha : QE X a ta) (hb : QE X b tb) : QE X (.IfExp c a b pos) (tIf tA ta tb) := ⟨pe_ifExp hc.h ha.h hb.h⟩
theorem qw_and1 (ha : QT X a tA) : QW X (.BoolOp .And [a] pos) tA := ⟨pw_and1 ha.h⟩
theorem qw_or1 (ha : QT X a tA) : QW X (.BoolOp .Or [a] pos) tA := ⟨pw_or1 ha.h⟩
theorem qw_and (ha : QT X a tA) (hb : QW X (.BoolOp .And (b :: rest) pos) tB') : QW X (.BoolOp .And (a :: b :: rest) pos) (tAnd tA tB') := ⟨pw_and ha.h hb.h⟩
theorem qw_or (ha : QT X a tA) (hb : QW X (.BoolOp .Or (b :: rest) pos) tB') : QW X (.BoolOp .Or (a :: b :: rest) pos) (tOr tA tB') := ⟨pw_or ha.h hb.h⟩
theorem qt_w (h : QW X e tA) : QT X e tA := ⟨h.h.pt⟩
theorem qt_not (ha : QT X a tA) : QT X (.UnaryOp .Not a pos) (tNot tA) := ⟨pt_not ha.h⟩
theorem qt_val (h : QE X e te) (he : ∀ whole, isTrue e X.env whole = (do let v ← whole; standAt e.pos; holding [v] (truthy v)) := by intro _; rfl) : QT X e (tB te) := ⟨pt_val h.h he⟩
theorem q_tup {k : Nat} (h : QA X es t) : QE X (.Tuple es k pos) (tTupF t) := ⟨pe_tupF h.h⟩
theorem q_lst (h : QA X es t) : QE X (.List es pos) (tLstF t) := ⟨pe_lstF h.h⟩
theorem qa_nil : QA X [] tNil := ⟨pa_nil⟩
theorem qa_cons (ha : QE X e te) (hr : QA X es t) (hs : starEach (e :: es) X.env = (false, eval e X.env) :: starEach es X.env := by rfl) : QA X (e :: es) (tCons te t) := ⟨pa_cons ha.h hr.h hs⟩
theorem qa_strs {zs : List Str} (h : CS es zs) : QA X es (tStrs zs) := ⟨pa_strs h⟩
theorem q_ix {r : R2} (hr : RIx X r) (ha : QE X a ta) (hb : QE X b tb) (hs : PlainIx b := by intro _ _; rfl) : QE X (.Subscript a b pos) (tOp r ta tb) := ⟨pe_ix hr.h ha.h hb.h hs⟩
theorem qo_none : QO X none tNoPart := ⟨po_none⟩
theorem qo_some (h : QE X e te) : QO X (some e) (tPart te) := ⟨po_some h.h⟩
theorem q_slice {lo hi : Option Expr} {tl th : TO} {r : V → Option Int → Option Int → Hp → VK → Prop} (hr : RSl X r) (he : QE X e te) (hl : QO X lo tl) (hu : QO X hi th) : QE X (.Subscript e (.Slice lo hi none p2) pos) (tSl r te tl th) := ⟨pe_slice hr.h he.h hl.h hu.h⟩
theorem q_revS {p3 p4 : Pos} (he : QE X e te) : QE X (.Subscript e (.Slice none none (some (.UnaryOp .USub (.Constant (.int 1) j p4) p3)) p2) pos) (tRevS te) := ⟨pe_revS (one := e) he.h⟩
theorem q_has {k k' : Nat} {ps : List Str} {sp : Sp} (F : Has X.prog X.w X.K X.mg X.base k x ps sp) (hr : Room k' X.A) (hk : k ≤ k') (ha : QA X (e :: es) t) (hg : Gl X x := by rfl) (hdb : (x == ("__debug__" : Str)) = false := by decide)
    (he : starEach (e :: es) X.env = (false, eval e X.env) :: starEach es X.env := by rfl) (hpl : (backTo pos (starEach es X.env)).any (·.1) = false := by rfl) : QE X (.Call (.Name x p) (e :: es) [] pos) (tCall sp [] E0 t) := ⟨pe_has (F.mono hk) hr ha.h hg hdb he hpl⟩
theorem q_has0 {k k' : Nat} {ps : List Str} {sp : Sp} (F : Has X.prog X.w X.K X.mg X.base k x ps sp) (hr : Room k' X.A) (hk : k ≤ k') (hg : Gl X x := by rfl) (hdb : (x == ("__debug__" : Str)) = false := by decide) : QE X (.Call (.Name x p) [] [] pos) (tCall sp [] E0 tNil) := ⟨pe_has0 (F.mono hk) hr hg hdb⟩
theorem q_callB {id : String} {r : List V → Hp → VK → Prop} (hc : RCall X (.builtin id) r) (hm : X.mg x = none) (hv : bootBuiltins x = some (.builtin id)) (ha : QA X (e :: es) t) (hg : Gl X x := by rfl) (hn : x ≠ "__name__" := by decide) (hdb : (x == ("__debug__" : Str)) = false := by decide)
    (he : starEach (e :: es) X.env = (false, eval e X.env) :: starEach es X.env := by rfl) (hpl : (backTo pos (starEach es X.env)).any (·.1) = false := by rfl) : QE X (.Call (.Name x p) (e :: es) [] pos) (tCB r t) := ⟨pe_callB hc.h hg hm hv ha.h hn hdb he hpl⟩
theorem q_callTy {T : String} {r : List V → Hp → VK → Prop} (hc : RCall X (.type T) r) (hm : X.mg x = none) (hv : bootBuiltins x = some (.type T)) (ha : QA X (e :: es) t) (hg : Gl X x := by rfl) (hn : x ≠ "__name__" := by decide) (hdb : (x == ("__debug__" : Str)) = false := by decide)
    (he : starEach (e :: es) X.env = (false, eval e X.env) :: starEach es X.env := by rfl) (hpl : (backTo pos (starEach es X.env)).any (·.1) = false := by rfl) : QE X (.Call (.Name x p) (e :: es) [] pos) (tCB r t) := ⟨pe_callTy hc.h hg hm hv ha.h hn hdb he hpl⟩
theorem q_ml {id : String} {r : V → List V → Hp → VK → Prop} (slot : Slot "list" name id) (hty : typeOf (.builtin id) = pure (.type "method_descriptor")) (hm : RMt X id r) (ho : QE X o to) (ha : QA X (e :: es) t)
    (hbase : attributeBase o name X.env (eval o X.env) = eval o X.env := by rfl)
    (hfew : ((backTo cpos (starEach (e :: es) X.env)).all (fun x => !x.1) && (backToKw cpos (keywordEach [] X.env)).all (fun x => x.1.isSome)
      && decide ((e :: es).length + ([] : List Keyword).length + (if ([] : List Keyword).isEmpty then 0 else 1) < 30)) = true := by rfl)
    (hline : (apos.endLine == cpos.line) = true := by rfl) (hs : starEach (e :: es) X.env = (false, eval e X.env) :: starEach es X.env := by rfl) (hplain : (backTo cpos (starEach es X.env)).any (·.1) = false := by rfl) :
    QE X (.Call (.Attribute o name apos) (e :: es) [] cpos) (tML r to t) := ⟨pe_ml slot hty hm.h ho.h ha.h hbase hfew hline hs hplain⟩
theorem q_ms {id : String} {r : V → List V → Hp → VK → Prop} (slot : Slot "str" name id) (hty : typeOf (.builtin id) = pure (.type "method_descriptor")) (hm : RMt X id r) (ho : QE X o to) (ha : QA X (e :: es) t)
    (hbase : attributeBase o name X.env (eval o X.env) = eval o X.env := by rfl)
    (hfew : ((backTo cpos (starEach (e :: es) X.env)).all (fun x => !x.1) && (backToKw cpos (keywordEach [] X.env)).all (fun x => x.1.isSome)
      && decide ((e :: es).length + ([] : List Keyword).length + (if ([] : List Keyword).isEmpty then 0 else 1) < 30)) = true := by rfl)
    (hline : (apos.endLine == cpos.line) = true := by rfl) (hs : starEach (e :: es) X.env = (false, eval e X.env) :: starEach es X.env := by rfl) (hplain : (backTo cpos (starEach es X.env)).any (·.1) = false := by rfl) :
    QE X (.Call (.Attribute o name apos) (e :: es) [] cpos) (tMS r to t) := ⟨pe_ms slot hty hm.h ho.h ha.h hbase hfew hline hs hplain⟩
theorem q_ml0 {id : String} {r : V → List V → Hp → VK → Prop} (slot : Slot "list" name id) (hty : typeOf (.builtin id) = pure (.type "method_descriptor")) (hm : RMt X id r) (ho : QE X o to)
    (hbase : attributeBase o name X.env (eval o X.env) = eval o X.env := by rfl) (hline : (apos.endLine == cpos.line) = true := by rfl) : QE X (.Call (.Attribute o name apos) [] [] cpos) (tML0 r to) := ⟨pe_ml0 slot hty hm.h ho.h hbase hline⟩
theorem qts_nil : QTs X [] tYes := ⟨pts_nil⟩
theorem qts_one (hc : QT X c tA) : QTs X [c] tA := ⟨pts_one hc.h⟩
/-! ### statements -/
variable {st : Stmt} {sr : List Stmt} {ts us : TS} {g : TG}
theorem qb_nil : QB X [] tNext := ⟨pss_nil⟩
theorem qb_one (h1 : QS X st ts) : QB X [st] ts := ⟨pss_one h1.h⟩
theorem qb_cons (h1 : QS X st ts) (h2 : QB X sr us) : QB X (st :: sr) (tSeq ts us) := ⟨pss_cons h1.h h2.h⟩
theorem qs_pass : QS X (.Pass pos) tNext := ⟨ps_pass⟩
theorem qs_break : QS X (.Break pos) tBreak := ⟨ps_break⟩
theorem qs_continue : QS X (.Continue pos) tCont := ⟨ps_continue⟩
theorem qs_expr (he : QE X e te) (hs : swapsWith e none pos.line X.env = pure false := by rfl) : QS X (.Expr e pos) (tDrop te) := ⟨ps_expr he.h hs⟩
theorem qs_ret (he : QE X e te) : QS X (.Return (some e) pos) (tRet te) := ⟨ps_ret he.h⟩
theorem qs_retN : QS X (.Return none pos) tRetN := ⟨ps_retN⟩
theorem qs_if {sa sb : List Stmt} (hc : QT X c tA) (ha : QB X sa ts) (hb : QB X sb us) : QS X (.If c sa sb pos) (tIfS tA ts us) := ⟨ps_if hc.h ha.h hb.h⟩
theorem qs_set {i : Nat} {pos' : Pos} (hN : X.N.Nodup) (hi : X.N[i]? = some x) (hx : Loc X.env.scope x) (he : QE X e te) (hs : swapsWith e (some (.Name x pos')) pos.line X.env = pure false := by rfl) (hf : X.fn x = true ∨ X.env.scope.names.lookup x = some .local := by first | exact .inl rfl | exact .inr rfl | assumption) :
    QS X (.Assign [.Name x pos'] e pos) (tAsg te (gName i)) := ⟨ps_set hN hi hx he.h hs hf⟩
theorem qs_asg {tg : Expr} (he : QE X e te) (hg : QG X tg g) (hs : swapsWithSole [tg] e pos.line X.env = pure false := by rfl) (hw : swappedStores [tg] e X.env = pure none := by rfl) (h1 : (assignEach [tg] X.env).map (·.2) = [assign tg X.env] := by rfl) : QS X (.Assign [tg] e pos) (tAsg te g) := ⟨ps_asg he.h hg.h hs hw h1⟩
theorem qg_name {i : Nat} (hN : X.N.Nodup) (hi : X.N[i]? = some x) (hx : Loc X.env.scope x) (hf : X.fn x = true ∨ X.env.scope.names.lookup x = some .local := by first | exact .inl rfl | exact .inr rfl | assumption) : QG X (.Name x pos) (gName i) := ⟨pg_name hN hi hx hf⟩
theorem qgs_nil : QGs X [] gNil := ⟨pgs_nil⟩
theorem qgs_cons {gt : TG} {gu : TGs} (h1 : QG X e gt) (h2 : QGs X es gu) (hs : (assignEach (e :: es) X.env).map (·.2) = assign e X.env :: (assignEach es X.env).map (·.2) := by rfl) : QGs X (e :: es) (gCons gt gu) := ⟨pgs_cons h1.h h2.h hs⟩
theorem qg_tup {k n : Nat} {gu : TGs} (hc : X.calm = true) (h : QGs X es gu) (hn : (assignEach es X.env).length = n := by rfl) (hst : (assignEach es X.env).findIdx? (·.1) = none := by rfl) : QG X (.Tuple es k pos) (gTup X.K n gu) := ⟨pg_tup hc h.h hn hst⟩
theorem qg_sub {i : Expr} {ti : TE} {tset : TSet} (ho : QE X o to) (hi : QE X i ti) (hs : RSet X tset)
    (ha : ∀ v, assign (.Subscript o i pos) X.env v = (do
      let ov ← holding [v] (eval o X.env)
      let iv ← holding [v, ov] (eval i X.env)
      standAt pos
      holding [v, ov, iv] (setItem ov iv v)
      release [v, ov, iv] []) := by intro _; rfl) : QG X (.Subscript o i pos) (gSub to ti tset) := ⟨pg_sub ho.h hi.h hs.h ha⟩
variable {tg : Expr}
theorem qi_list (hl : QE X e te) : QI X tg e (iList X.K te) := ⟨pi_list hl.h⟩
theorem qi_tup (hl : QE X e te) : QI X tg e (iTup X.K te) := ⟨pi_tup hl.h⟩
theorem qi_str (hl : QE X e te) : QI X tg e (iStr te) := ⟨pi_str hl.h⟩
theorem qi_range1 (hm : X.mg "range" = none) (ha : QA X [a] t) (hg : Gl X "range" := by rfl) (hs : starEach [a] X.env = [(false, eval a X.env)] := by rfl) : QI X tg (.Call (.Name "range" p) [a] [] pos) (iRng1 t) := ⟨pi_range1 hg hm ha.h hs⟩
theorem qi_range2 (hm : X.mg "range" = none) (ha : QA X [a, b] t) (hg : Gl X "range" := by rfl) (hs : starEach [a, b] X.env = [(false, eval a X.env), (false, eval b X.env)] := by rfl) (hs2 : starEach [b] X.env = [(false, eval b X.env)] := by rfl) : QI X tg (.Call (.Name "range" p) [a, b] [] pos) (iRng2 t) := ⟨pi_range2 hg hm ha.h hs hs2⟩
end
section
variable {X : Cx} {tg iter c : Expr} {body : List Stmt} {wi : TI} {g : TG} {tb : TS} {pos : Pos} {tA : TT}
theorem qs_for (hp : PassesOwn (model X.prog X.w) X.A X.env X.xe) (hc : X.calm = true) (hi : QI X tg iter wi) (hg : QG X tg g) (hb : QB X body tb) (hs : ∀ x, foldedSetIterable iter X.env x = pure x := by intro _; rfl) : QS X (.For tg iter body [] pos) (tFor wi g tb) := ⟨ps_for hp hc hi.h hg.h hb.h hs⟩
theorem qs_while (hp : PassesOwn (model X.prog X.w) X.A X.env X.xe) (hc : QT X c tA) (hb : QB X body tb) : QS X (.While c body [] pos) (tWhile tA tb) := ⟨ps_while hp hc.h hb.h⟩
end
end L2

namespace L2
open PySem PySem.Spec PyProof.Rows
theorem Fun.okQ {P : Program} {w : World} {K : PySem.W.Frag} {mg : Str → Option Value} {base : Heap} {x qual : Str} {st : Stmt} {f : Addr} {fd : FuncData} {N ps : List Str} {k : Nat} {sp : Sp} (F : Fun K x qual st f fd) (S : FnScope N ps (defScope st)) (len : ∀ vs H Q E, sp vs H Q E → vs.length = ps.length)
    (hbody : ∀ (cdv : Value) (A : Around) (outer : List Env) (s : Shared) (H : Hp) (vs : List V) (Q : VK) (E : XK), Room k (A.deeper (envOfC qual (defScope st) s.heap.objs.size f cdv)) → sp vs H Q E →
      ∃ t, QB (cxOf CX0 P w K mg base N qual (defScope st) f cdv A outer s H E).nox (defBody st) t ∧ t { nx := fun _ H' => Q .non H', rt := Q } (start N vs) H) : FnOk P w K mg base CX0 (k + 1) f fd ps sp :=
  F.ok S len fun cdv A outer s H vs Q E hr h => let ⟨t, h1, h2⟩ := hbody cdv A outer s H vs Q E hr h; ⟨t, h1.h, h2⟩
end L2

namespace L2
open PySem PySem.Spec PyProof.Rows
/-! ### a product of two greater numbers -/
def CMulB (i j : Int) : Prop := Builtin.Int.intBits i ≤ 10000 ∧ Builtin.Int.intBits j ≤ 10000
theorem o_mulB {X : Cx} : ROp X (binaryOp .Mult) (rI CMulB fun i j => .int (i * j)) := ⟨opI fun _ _ _ _ _ _ _ hc q => mul_int q (IntMulOk.of_bits (Nat.le_trans hc.1 (by decide)) (Nat.le_trans hc.2 (by decide)))⟩
end L2
set_option Elab.async false
set_option linter.all false
set_option maxRecDepth 100000
set_option maxHeartbeats 4000000
/-! More rules: a comprehension by plain conditions on its scope, sorted of texts, enumerate of a tuple. -/
namespace L2
open PySem PySem.Spec PyProof.Rows
/-! ### the cells that a block takes over -/
def clFrom (env : Env) : List (Str × NameKind) → List (Str × Addr) → List (Str × Addr)
  | [], cs => cs
  | (n, k) :: r, cs => clFrom env r (if k == .free then (n, (env.cells.lookup n).getD 0) :: cs else cs)
theorem clFor {scope : Scope} {env : Env} (h : ∀ x ∈ scope.names, x.2 = .free → ∃ c, env.cells.lookup x.1 = some c) : closureFor scope env = pure (clFrom env scope.names []) := by
  unfold closureFor
  have key : ∀ (ns : List (Str × NameKind)) (cs : List (Str × Addr)), (∀ x ∈ ns, x.2 = .free → ∃ c, env.cells.lookup x.1 = some c) →
      (forIn ns cs fun (x : Str × NameKind) (r : List (Str × Addr)) => if (x.2 == NameKind.free) = true then (do let a ← cellOf env x.1; pure (ForInStep.yield ((x.1, a) :: r))) else (pure (ForInStep.yield r) : Sem _)) = pure (clFrom env ns cs) := by
    intro ns
    induction ns with
    | nil => intro cs _; rfl
    | cons y r ih =>
      intro cs hc
      obtain ⟨n, k⟩ := y
      rw [List.forIn_cons]
      have ihr := fun cs => ih cs fun x hx => hc x (List.mem_cons_of_mem _ hx)
      by_cases hk : (k == NameKind.free) = true
      · obtain ⟨c, e⟩ := hc (n, k) List.mem_cons_self (eq_of_beq hk)
        have e2 : cellOf env n = pure c := by unfold cellOf; rw [e]
        show ((if (k == NameKind.free) = true then _ else _) >>= _) = pure (clFrom env r (if (k == NameKind.free) = true then _ else _))
        rw [if_pos hk, if_pos hk, e2]
        simp only [pure_bind]
        have e3 : (env.cells.lookup n).getD 0 = c := by rw [show env.cells.lookup n = some c from e]; rfl
        rw [e3]
        exact ihr _
      · show ((if (k == NameKind.free) = true then _ else _) >>= _) = pure (clFrom env r (if (k == NameKind.free) = true then _ else _))
        rw [if_neg hk, if_neg hk]
        simp only [pure_bind]
        exact ihr _
  have := key scope.names [] h
  dsimp only
  rw [this]; simp only [pure_bind]
theorem clFrom_ok {env : Env} : ∀ (ns : List (Str × NameKind)) (cs : List (Str × Addr)), (∀ x ∈ ns, x.2 = .free → ∃ c, env.cells.lookup x.1 = some c) → (∀ y ∈ cs, env.cells.lookup y.1 = some y.2) → ∀ y ∈ clFrom env ns cs, env.cells.lookup y.1 = some y.2
  | [], cs, _, h => h
  | (n, k) :: r, cs, hf, h => by
    refine clFrom_ok r _ (fun x hx => hf x (List.mem_cons_of_mem _ hx)) ?_
    by_cases hk : (k == NameKind.free) = true
    · rw [if_pos hk]
      intro y hy
      rcases List.mem_cons.mp hy with rfl | hy
      · obtain ⟨c, e⟩ := hf (n, k) List.mem_cons_self (eq_of_beq hk)
        show env.cells.lookup n = some ((env.cells.lookup n).getD 0)
        rw [show env.cells.lookup n = some c from e]; rfl
      · exact h y hy
    · rw [if_neg hk]; exact h
theorem clFrom_sub {env : Env} : ∀ (ns : List (Str × NameKind)) (cs : List (Str × Addr)) (y : Str × Addr), y ∈ cs → y ∈ clFrom env ns cs
  | [], _, _, h => h
  | (n, k) :: r, cs, y, h => by
    refine clFrom_sub r _ y ?_
    split
    · exact List.mem_cons_of_mem _ h
    · exact h
theorem clFrom_mem {env : Env} : ∀ (ns : List (Str × NameKind)) (cs : List (Str × Addr)) (x : Str), (x, NameKind.free) ∈ ns → ∃ c, (x, c) ∈ clFrom env ns cs
  | [], _, _, h => by simp at h
  | (n, k) :: r, cs, x, h => by
    rcases List.mem_cons.mp h with e | h
    · obtain ⟨e1, e2⟩ := Prod.mk.inj e
      subst e1; subst e2
      exact ⟨_, clFrom_sub r _ (x, _) (by rw [if_pos (by rfl : (NameKind.free == NameKind.free) = true)]; exact List.mem_cons_self)⟩
    · exact clFrom_mem r _ x h
theorem lookup_mem' {β : Type} : ∀ {l : List (Str × β)} {x : Str} {b : β}, l.lookup x = some b → (x, b) ∈ l
  | [], _, _, h => by simp at h
  | (y, c) :: r, x, b, h => by
    rw [List.lookup_cons] at h
    cases hx : x == y with
    | true => rw [hx] at h; have := eq_of_beq hx; subst this; cases h; exact List.mem_cons_self
    | false => rw [hx] at h; exact List.mem_cons_of_mem _ (lookup_mem' h)
theorem mem_lookup {β : Type} : ∀ {l : List (Str × β)} {x : Str} {b : β}, (x, b) ∈ l → ∃ c, l.lookup x = some c
  | (y, c) :: r, x, b, h => by
    rw [List.lookup_cons]
    cases hx : x == y with
    | true => exact ⟨c, rfl⟩
    | false =>
      rcases List.mem_cons.mp h with e | h
      · cases e; simp at hx
      · exact mem_lookup h
theorem lookup_free {env : Env} {g : Str × NameKind → Bool} : ∀ {names : List (Str × NameKind)} {x : Str}, names.lookup x = some .free →
    (names.map fun y => if g y then (y.1, NameKind.cell) else y).lookup x = some .cell ∨ (names.map fun y => if g y then (y.1, NameKind.cell) else y).lookup x = some .free
  | [], _, h => by simp at h
  | (n, k) :: r, x, h => by
    rw [List.lookup_cons] at h
    rw [List.map_cons]
    have e1 : ∀ y : Str × NameKind, (if g y then (y.1, NameKind.cell) else y).1 = y.1 := fun y => by split <;> rfl
    have e2 : ∀ (y : Str × NameKind) (l : List (Str × NameKind)), (y :: l).lookup x = if (x == y.1) = true then some y.2 else l.lookup x := fun y l => by
      obtain ⟨a, b⟩ := y
      rw [List.lookup_cons]
      cases x == a <;> rfl
    rw [e2, e1]
    cases hx : x == n with
    | true =>
      rw [hx] at h
      cases h
      rw [if_pos rfl]
      by_cases hg : g (n, .free) = true
      · rw [if_pos hg]; exact .inl rfl
      · rw [if_neg hg]; exact .inr rfl
    | false =>
      rw [hx] at h
      rw [if_neg (by exact Bool.false_ne_true)]
      exact lookup_free (env := env) h
/-- what is asked of a block's scope, of its names nm, of the captured slots, of the def's names -/
def capB (dn : List (Str × NameKind)) (sn : List (Str × NameKind)) (nm : List Str) (cap : List (Option Nat)) (N : List Str) : Bool :=
  (sn.all fun x => !(x.2 == .local) || sn.lookup x.1 == some .local) && (sn.all fun y => !(y.2 == .cell)) && (sn.all fun x => !(x.2 == .free) || dn.lookup x.1 == some .cell) && (cap.length == nm.length) &&
  ((List.range cap.length).all fun i => match cap[i]? with
    | some (some j) => (match nm[i]?, N[j]? with
      | some x, some y => x == y && dn.lookup x == some .cell && sn.lookup x == some .free
      | _, _ => false)
    | _ => true)
theorem q_comp {X : Cx} {elt tg iter : Expr} {ifs : List Expr} {scope : Scope} {pos : Pos} {nm : List Str} {cap : List (Option Nat)} {wi : TI} {g : TG} {tc : TT} {te : TE} {m : Nat} (hcalm : X.calm = true)
    (hcells : X.env.cells = cellsFrom m X.env.scope.names []) (hkind : scope.kind = .function) (hB : capB X.env.scope.names scope.names nm cap X.N = true)
    (hi : QI X tg iter wi) (hg : ∀ cl C s0 H0 fp, QG (cxComp X nm scope cl C s0 H0 fp) tg g) (ht : ∀ cl C s0 H0 fp, QTs (cxComp X nm scope cl C s0 H0 fp) ifs tc)
    (he : ∀ cl C s0 H0 fp, QE (cxComp X nm scope cl C s0 H0 fp) elt te) (hs : ∀ x, foldedSetIterable iter X.env x = pure x := by intro _; rfl) :
    QE X (.ListComp elt [⟨tg, iter, ifs, 0⟩] scope pos) (tComp cap wi g tc te) := by
  simp only [capB, Bool.and_eq_true, List.all_eq_true, Bool.or_eq_true, Bool.not_eq_true', beq_iff_eq, beq_eq_false_iff_ne] at hB
  obtain ⟨⟨⟨⟨b1, b2⟩, b3⟩, b4⟩, b5⟩ := hB
  have has : ∀ x ∈ scope.names, x.2 = .free → ∃ c, X.env.cells.lookup x.1 = some c := fun x hx hk => by
    rw [hcells]
    rcases b3 x hx with z | z
    · exact absurd hk z
    · exact cell_has z
  have hcl : ∀ x c, (clFrom X.env scope.names []).lookup x = some c → X.env.cells.lookup x = some c := fun x c h => clFrom_ok scope.names [] has (by simp) (x, c) (lookup_mem' h)
  have hin : ∀ x, (x, NameKind.free) ∈ scope.names → ∃ c, (clFrom X.env scope.names []).lookup x = some c := fun x h => let ⟨_, q⟩ := clFrom_mem (env := X.env) scope.names [] x h; mem_lookup q
  have hmap : (relabel scope X.env).names = scope.names.map fun y => if (y.2 == .free && X.env.scope.kind == .function && X.env.kindOf y.1 == some .cell) then (y.1, NameKind.cell) else y := by
    show scope.names.map _ = _
    refine List.map_congr_left fun y _ => ?_
    obtain ⟨a, b⟩ := y
    rfl
  have fr : ∀ x, ((relabel scope X.env).names.lookup x = some .cell ∨ (relabel scope X.env).names.lookup x = some .free) → (x, NameKind.free) ∈ scope.names := fun x h => by
    have h' : ∃ k, (x, k) ∈ (relabel scope X.env).names ∧ (k = .cell ∨ k = .free) := by
      rcases h with h | h
      · exact ⟨_, lookup_mem' h, .inl rfl⟩
      · exact ⟨_, lookup_mem' h, .inr rfl⟩
    obtain ⟨k, hm, hk⟩ := h'
    rw [hmap] at hm
    obtain ⟨y, hy, e⟩ := List.mem_map.mp hm
    obtain ⟨a, b⟩ := y
    by_cases hb : b = .free
    · subst hb
      have : a = x := by split at e <;> (cases e; rfl)
      subst this; exact hy
    · rw [if_neg (by simp [hb])] at e
      cases e
      rcases hk with rfl | rfl
      · exact absurd rfl (b2 _ hy)
      · exact absurd rfl hb
  refine ⟨pe_comp (cl := clFrom X.env scope.names []) (cap := cap) (nm := nm) hcalm (clFor has) hcl hkind (fun x hx hk => (b1 x hx).resolve_left fun z => z hk) (fun y hy => b2 y hy) (fun x hx => hin x (fr x hx)) (fun i j e => ?_) b4 hi.h (fun C s0 H0 fp => (hg _ C s0 H0 fp).h) (fun C s0 H0 fp => (ht _ C s0 H0 fp).h) (fun C s0 H0 fp => (he _ C s0 H0 fp).h) hs⟩
  have hi' : i < cap.length := (List.getElem?_eq_some_iff.mp e).1
  have q := b5 i (List.mem_range.mpr hi')
  rw [e] at q
  dsimp only at q
  cases hx : nm[i]? with
  | none => rw [hx] at q; simp at q
  | some x =>
    cases hy : X.N[j]? with
    | none => rw [hx, hy] at q; simp at q
    | some y =>
      rw [hx, hy] at q
      simp only [Bool.and_eq_true, beq_iff_eq] at q
      obtain ⟨⟨rfl, q1⟩, q2⟩ := q
      refine ⟨x, rfl, rfl, .inr (.inl q1), (by rw [q1]; decide), ?_, ?_⟩
      · obtain ⟨c, hc⟩ := hin x (lookup_mem' q2)
        rw [hc, hcl _ _ hc]
      · rw [hmap]; exact lookup_free (env := X.env) q2
end L2

namespace L2
open PySem PySem.Spec PyProof.Rows
/-! ### sorted of a list of texts -/
def rSorted (K : PySem.W.Frag) : List V → Hp → VK → Prop := fun xs H Q => ∃ (p : Addr) (ys : List (List Nat)), xs = [.ref p] ∧ SqL K H p (ys.map fun l => V.str (tx l)) ∧ ys.length < 64 ∧
  ∀ zs : List (List Nat), zs.Perm ys → sortedS (zs.map tx) = true → ∀ l H2, H l = none → H2 = upd H l (.lst (zs.map fun l => V.str (tx l))) → Q (.ref l) H2
theorem tx_cpsL (z : Str) : tx z.cps.toList = z := by cases z; rfl
theorem c_sorted_strs {X : Cx} : RCall X (.builtin "sorted") (rSorted X.K) := ⟨by
  intro pins s σ H xs us Q I r h
  obtain ⟨p, ys, rfl, hS, h64, q⟩ := h
  obtain ⟨u, rfl, ru⟩ := vals1 r
  cases ru
  obtain ⟨its, rv, pl, hz⟩ := I.list hS
  have hl := rv.length
  rw [List.length_map] at hl
  refine sorted_strs (ss := ys.map tx) pl.isList (strsAre_of (by simpa using rv)) (by omega) fun out ss' h1 h2 h3 => ?_
  obtain ⟨ep, hat⟩ := sortedAll_at s.heap its out
  have hfr : H (s.heap.objs.size + 1) = none := I.hok.fresh (Nat.le_succ _)
  have hmap : (ss'.map fun z => z.cps.toList).map tx = ss' := by
    rw [List.map_map]
    have : (tx ∘ fun z : Str => z.cps.toList) = id := funext fun z => tx_cpsL z
    rw [this, List.map_id]
  have hperm : (ss'.map fun z => z.cps.toList).Perm ys := by
    have e := h2.map fun z : Str => z.cps.toList
    rw [List.map_map] at e
    have : ((fun z : Str => z.cps.toList) ∘ tx) = id := funext fun l => by simp [tx]
    rw [this, List.map_id] at e
    exact e
  have hvals : Vals ((ss'.map fun z => z.cps.toList).map fun l => V.str (tx l)) out.toList := by
    have e := of_strsAre h1
    rw [← hmap, List.map_map] at e
    exact e
  refine ⟨.ref (s.heap.objs.size + 1), _, I.laid (t' := s.toks) (fun b o e => sortedAll_old e) (Nat.le_succ _) ?_, rfl, q _ hperm (by rw [hmap]; exact h3) _ _ hfr rfl⟩
  refine ⟨?_, out.toList, ep, hvals, hat⟩
  rw [List.length_map, hperm.length_eq]
  exact Nat.le_trans (Nat.le_of_lt h64) (by decide)⟩

/-! ### enumerate of a tuple -/
theorem Inv.turned2 {X : Cx} {pins : List (Addr × Obj)} {σ : St} {H : Hp} {s : Shared} {h' : Heap} {t' : Nat} {e it : Addr} (I : Inv X pins σ H s) (k : ∀ b o, b ≠ e → b ≠ it → s.heap.get? b = some o → h'.get? b = some o)
    (he : ∃ o, h'.get? e = some o) (f1 : FpOk X pins H e) (f2 : FpOk X pins H it) : Inv X pins σ H { s with heap := h', toks := t' } := by
  have nit : ∀ b u, H b = some u → b ≠ e ∧ b ≠ it := fun b u q => ⟨fun z => (by rw [z, f1.1] at q; cases q), fun z => (by rw [z, f2.1] at q; cases q)⟩
  have nin : ∀ b, b ∉ [e, it] → b ≠ e ∧ b ≠ it := fun b h => ⟨fun z => h (by simp [z]), fun z => h (by simp [z])⟩
  refine I.step (g' := s.gens) (d' := s.drawn) (ch := [e, it]) (fun b hb => ?_) (fun b o _ _ hc q _ => k b o (nin b hc).1 (nin b hc).2 q) (fun b o _ _ hc q _ => ⟨o.slots, k b o (nin b hc).1 (nin b hc).2 q⟩) (fun _ _ _ _ n => n)
    (fun b o hc q => ⟨o, k b o (nin b hc).1 (nin b hc).2 q⟩) (fun _ _ q => q) (fun _ _ _ q => q) (fun b ps q => ⟨#[], by rw [q]; simp⟩) (fun m hm => ?_) (fun b u q => ?_) I.bare
  · have z : b = e ∨ b = it := by simpa using hb
    rcases z with rfl | rfl
    · exact ⟨f1.2.2.2.1, f1.2.1, f1.2.2.2.2.1, f1.2.2.2.2.2⟩
    · exact ⟨f2.2.2.2.1, f2.2.1, f2.2.2.2.2.1, f2.2.2.2.2.2⟩
  · obtain ⟨o, es, ep, ho, r⟩ := hm
    exact ⟨o, es, ep, k _ o (Ne.symm f1.2.1) (Ne.symm f2.2.1) ho, r⟩
  · refine (I.hok b u q).stay (fun c v hc z => ?_) (fun _ z => z) fun _ _ z => z
    rcases hc with y | y
    · rw [y] at z ⊢; exact k b v (nit b u q).1 (nit b u q).2 z
    · exact k c v (nit c _ y).1 (nit c _ y).2 z
section
variable {prog : Program} {w : World} {A : Around} {E : Value → Shared → Prop} {s : Shared}
theorem next_tup_item {it t : Addr} {i : Nat} {its : Array Value} {x : Value} {Q : Value → Shared → Prop} (st : s.heap.IsTupleIter it t i) (ht : s.heap.IsTuple t its) (hx : its[i]? = some x)
    (q : ∀ g, g.IsTupleIter it t (i + 1) → Heap.SameBut it s.heap g → Q x { s with heap := g }) : wpAny (model prog w) A (Builtin.SmallTypes.nextOf (.ref it)) Q E s := by
  obtain ⟨ob, e1, e2, e3⟩ := id st
  obtain ⟨ot, g1, _, nt, g3⟩ := ht
  have T := st.typeIs
  unfold Builtin.SmallTypes.nextOf
  refine wpAny_bind (wpAny_callSpecial?_slot (name := Str.ofString "__next__") T F.slot_tuple_iterator_next (wpAny_call_entry F.slot_tuple_iterator_next T F.entry_tuple_iterator_next ?_ (F.args_tuple_iterator_next_1 _)))
  show wpAny _ _ (field (.ref it) 0 >>= _) _ _ s
  refine wpAny_bind (wpAny_field e1 e3 (x := .ref t) rfl ?_)
  dsimp only
  rw [if_neg (show ¬ ((Value.ref t == Value.none) = true) from Bool.false_ne_true)]
  refine wpAny_bind (wpAny_field e1 e3 (x := .int i 0) rfl ?_)
  dsimp only
  refine wpAny_bind (wpAny_seqItems g1 g3 ?_)
  simp only [Int.toNat_natCast, hx]
  refine wpAny_bind (wpAny_setField e1 e3 (by simp) (wpAny_pure ⟨x, rfl, wpAny_pure (q _ ?_ (Heap.SameBut.update ..))⟩))
  exact ⟨_, Heap.get?_update_self _ e1 (Obj.isFreed_of_fields (Obj.data_mapFields e3 _)), (Obj.cls_mapFields ..).trans e2, by rw [Obj.data_mapFields e3]; simp [rawInt]⟩
theorem next_tup_end {it t : Addr} {i : Nat} {its : Array Value} {Q : Value → Shared → Prop} (hh : A.handled = none) (st : s.heap.IsTupleIter it t i) (ht : s.heap.IsTuple t its) (hx : its[i]? = none)
    (q : ∀ g e, Heap.ExtBut it s.heap g → (∃ o, g.get? e = some o ∧ o.cls = .type "StopIteration") → E (.ref e) { s with heap := g }) : wpAny (model prog w) A (Builtin.SmallTypes.nextOf (.ref it)) Q E s := by
  obtain ⟨ob, e1, e2, e3⟩ := id st
  obtain ⟨ot, g1, _, nt, g3⟩ := ht
  have T := st.typeIs
  unfold Builtin.SmallTypes.nextOf
  refine wpAny_bind (wpAny_callSpecial?_slot (name := Str.ofString "__next__") T F.slot_tuple_iterator_next (wpAny_call_entry F.slot_tuple_iterator_next T F.entry_tuple_iterator_next ?_ (F.args_tuple_iterator_next_1 _)))
  show wpAny _ _ (field (.ref it) 0 >>= _) _ _ s
  refine wpAny_bind (wpAny_field e1 e3 (x := .ref t) rfl ?_)
  dsimp only
  rw [if_neg (show ¬ ((Value.ref t == Value.none) = true) from Bool.false_ne_true)]
  refine wpAny_bind (wpAny_field e1 e3 (x := .int i 0) rfl ?_)
  dsimp only
  refine wpAny_bind (wpAny_seqItems g1 g3 ?_)
  simp only [Int.toNat_natCast, hx]
  refine wpAny_bind (wpAny_rule (wpAny_bind (wpAny_setField e1 e3 (by simp) (wpAny_bind ?_))))
  simp only [newExc, newTuple]
  refine wpAny_bind (wpAny_newObj_type (wpAny_bind (m := firstArgMember _ _) (wpAny_of_eq (a := Value.none) (by first | rfl | (simp only [firstArgMember]; rfl)) (wpAny_newObj_type ?_ (by size_fits)))) (by size_fits))
  simp only [raiseNew]
  refine wpAny_bind (wpAny_handled ?_)
  rw [show A.in1.handled = none from hh]
  exact wpAny_bind (wpAny_pure (wpAny_throw (q _ _ (((Heap.SameBut.update ..).extBut.push _).push _) ⟨_, Heap.get?_push_size _ rfl, rfl⟩)))
end
theorem drawsTup {prog : Program} {w : World} {A : Around} (hh : A.handled = none) (it t : Addr) (hne : t ≠ it) (its : Array Value) :
    Draws prog w A it [it, t] its.size (fun i v => its[i]? = some v) (fun i h => h.IsTupleIter it t i ∧ h.IsTuple t its) where
  live := fun _ _ st => let ⟨o, e, _⟩ := st.1; ⟨o, e⟩
  frame := fun _ h h' st k => ⟨st.1.at fun o e => k it (by simp) o e, let ⟨o, e, r⟩ := st.2; ⟨o, k t (by simp) o e, r⟩⟩
  item := fun i s Q E hi st q => next_tup_item st.1 st.2 (x := its[i]) (by simp [hi]) fun g a b => q _ g s.toks (by simp [hi]) ⟨a, st.2.extBut b.extBut hne⟩ b
  done := fun s Q E st q => next_tup_end hh st.1 st.2 (by simp) q
end L2

namespace L2
open PySem PySem.Spec PyProof.Rows
open AutoSeq1 (wpAny_loadPart')
/-- the pairs of place and item of the tuple at a -/
def Ite (K : PySem.W.Frag) (a : Addr) : It :=
  ⟨fun i H => ∃ xs x, SqT K H a xs ∧ xs[i]? = some x, fun i H v H' => ∃ p, H p = none ∧ v = .ref p ∧ ∀ xs x, SqT K H a xs → xs[i]? = some x → H' = upd H p (.tup [.int i, x]), fun i H => ∃ xs, SqT K H a xs ∧ xs.length ≤ i⟩
theorem turn_enum {P : Program} {w : World} {K : PySem.W.Frag} {elts : List Expr} {kk : Nat} {pos : Pos} (a it e : Addr) (hei : e ≠ it) :
    Turn P w K (.Tuple elts kk pos) (Ite K a) [e, it] e (fun i h => (∃ old, IsEnum h e it i old) ∧ h.IsTupleIter it a i) where
  mem := by simp
  obj := fun i h st b hb => by
    have z : b = e ∨ b = it := by simpa using hb
    rcases z with rfl | rfl
    · obtain ⟨old, q⟩ := st.1
      exact ⟨_, q, fun v z => by cases z⟩
    · obtain ⟨o, q, c, d⟩ := st.2
      exact ⟨o, q, fun v z => by rw [d] at z; cases z⟩
  keep := fun i h h' st k => ⟨let ⟨old, q⟩ := st.1; ⟨old, k e (by simp) _ q⟩, st.2.at fun o q => k it (by simp) o q⟩
  item := by
    intro X hP hw hK hc i pins s σ H E I hf st hg
    subst hP hw hK
    obtain ⟨xs, x, hq, hx⟩ := hg
    obtain ⟨its, rv, p, hz⟩ := I.tuple hq
    obtain ⟨u, hu, ru⟩ := rv.get hx
    obtain ⟨⟨old, he⟩, hit⟩ := st
    have hT : s.heap.IsTuple a its.toArray := p
    obtain ⟨oa, ha, hca, _⟩ := id hT
    obtain ⟨oi, hi, hci, _⟩ := id hit
    have nai : a ≠ it := fun z => by
      rw [z, hi] at ha; cases ha
      rw [hci] at hca; injection hca with z; exact absurd z (by decide)
    have nae : a ≠ e := fun z => by
      rw [z, he] at ha; cases ha
      injection hca with z; exact absurd z (by decide)
    have hlt : i < its.toArray.size := by
      have := (List.getElem?_eq_some_iff.mp hu).1
      simpa using this
    refine wpAny_pyNext_enum_itemD (drawsTup (A := X.A.in1) (I.ok.hd hc) it a nai its.toArray) he ⟨hit, hT⟩ hlt hei (by simp [hei, Ne.symm nae]) fun x' g tk hx' ho' st' htup hsz hk => ⟨_, rfl, ?_⟩
    have ex : x' = u := by
      have e1 : its[i]? = some x' := by simpa using hx'
      rw [hu] at e1; exact (Option.some.inj e1).symm
    subst ex
    refine wpAny_letOwnedTupleGo_enum ho' fun g2 he2 hs2 => ?_
    have hfr : H s.heap.objs.size = none := I.hok.fresh (Nat.le_refl _)
    have I1 : Inv X pins σ (upd H s.heap.objs.size (.tup [.int i, x])) { s with heap := s.heap.push { cls := .type "tuple", data := .seq #[.int i tk, x'] }, toks := tk + 1 } := I.laid (fun b o q => Heap.get?_push_of_some _ q) (Nat.le_refl _)
      ⟨by show 2 ≤ sizeLine; decide, [.int i tk, x'], .cons ⟨tk, rfl⟩ (.cons ru .nil), ⟨_, Heap.get?_push_size _ rfl, rfl, _, rfl⟩⟩
    have nf : ∀ b ∈ [e, it], b ≠ s.heap.objs.size := fun b hb => by
      have z : b = e ∨ b = it := by simpa using hb
      rcases z with rfl | rfl
      · exact Nat.ne_of_lt (Heap.lt_size he)
      · exact Nat.ne_of_lt (Heap.lt_size hi)
    have fp : ∀ b ∈ [e, it], FpOk X pins (upd H s.heap.objs.size (.tup [.int i, x])) b := fun b hb => by
      obtain ⟨f0, f⟩ := hf b hb
      exact ⟨by rw [upd_ne (nf b hb)]; exact f0, f⟩
    have he2' : IsEnum g2 e it ((i : Int) + 1) x' := he2
    have I2 : Inv X pins σ (upd H s.heap.objs.size (.tup [.int i, x])) { s with heap := g2, toks := tk + 1 } := I1.turned2 (t' := tk + 1) (fun b o hbe hbi q => ?_) ⟨_, he2'⟩ (fp e (by simp)) (fp it (by simp))
    · refine ⟨.ref s.heap.objs.size, _, I2, rfl, ⟨_, hfr, rfl, fun ys y hy hy' => ?_⟩, ⟨⟨x', by simpa using he2'⟩, st'.1.extBut hs2.extBut (Ne.symm hei)⟩, fun b hb => (fp b hb).1⟩
      have e1 := I.tuple_inj hy hq
      subst e1
      rw [hx] at hy'; cases hy'; rfl
    · have q' : (s.heap.push { cls := .type "tuple", data := .seq #[.int i tk, x'] }).get? b = some o := q
      refine hs2.extBut b o hbe ?_
      by_cases hb : b = s.heap.objs.size
      · subst hb
        have e1 := Heap.get?_push_size s.heap (o := { cls := .type "tuple", data := .seq #[.int i tk, x'] }) rfl
        rw [e1] at q'; cases q'
        exact htup
      · rw [Heap.get?_push_ne _ _ _ hb] at q'
        exact hk b o hbe hbi q'
  done := by
    intro X hP hw hK hc i pins s σ H E I hf st hg
    subst hP hw hK
    obtain ⟨xs, hq, hx⟩ := hg
    obtain ⟨its, rv, p, hz⟩ := I.tuple hq
    obtain ⟨⟨old, he⟩, hit⟩ := st
    have hT : s.heap.IsTuple a its.toArray := p
    have hl := rv.length
    have hT' : Shared.TypeIs s (.ref e) "enumerate" := ⟨_, he, rfl⟩
    unfold pyNext
    refine wpAny_bind (wpAny_attempt (wpAny_callSpecial?_slot (name := Str.ofString "__next__") hT' F.slot_enumerate_next (wpAny_call_entry F.slot_enumerate_next hT' F.entry_enumerate_next ?_ (F.args_enumerate_next_1 _))))
    show wpAny _ _ (field (.ref e) 2 >>= _) _ _ _
    refine wpAny_bind (wpAny_field he rfl (x := .ref it) rfl (wpAny_bind (next_tup_end (show X.A.in1.handled = none from I.ok.hd hc) hit hT (by simp; omega) fun g y hx' hy => ?_)))
    obtain ⟨o, ho, hcl⟩ := hy
    refine wpAny_bind (wpAny_isInstance (T := "StopIteration") (b := true) ⟨o, ho, hcl⟩ isSubtype_stop (wpAny_pure ⟨rfl, ?_⟩))
    obtain ⟨f0, f1, f2, f3, f4, f5⟩ := hf it (by simp)
    exact I.turned (t' := s.toks) (fun b o hb q => hx' b o hb q) f0 f1 f3 f4 f5
  self := fun A i s Q E st h => let ⟨_, q⟩ := st.1; wpAny_pyIter_enum q h
end L2

namespace L2
open PySem PySem.Spec PyProof.Rows
open AutoSeq1 (wpAny_loadPart')
abbrev tIterOb (t : Addr) : Obj := { cls := .type "tuple_iterator", data := .fields #[.ref t, .int 0 0] }
abbrev enumOb (it : Addr) : Obj := { cls := .type "enumerate", data := .fields #[.none, .bool false, .ref it, rawInt 0, .none, .none] }
theorem en_new (t : Addr) (its : Array Value) (n : Nat) (dc : Option Addr) (sl : Array (Option Value)) :
    Meets (Builtin.«enumerate.__new__» ⟨[.type "enumerate", .ref t], []⟩) (fun _ R s => s.heap.get? t = some { cls := .type "tuple", dict := dc, data := .seq its n, slots := sl } ∧
      R (.ok (.ret (.ref (s.heap.push (tIterOb t)).objs.size))) { s with heap := (s.heap.push (tIterOb t)).push (enumOb s.heap.objs.size) }) :=
  .of_wp fun prog w A R s h => by
    obtain ⟨hp, g, d, tk, os⟩ := s
    obtain ⟨ht, h⟩ := h
    have sb := sub_enumerate
    have hT : Heap.IsTuple (Shared.heap ⟨hp, g, d, tk, os⟩) t its := ⟨_, ht, rfl, n, rfl⟩
    wp_walk using wpAny_loadPart' ht
    refine wpAny_stack_any fun st => wpAny_pure ?_
    split
    · rename_i c _ _ _ _ _
      cases (c == Value.type "enumerate") <;> (wp_walk using wpAny_loadPart' ht, wpAny_pyIter_tuple hT; exact ⟨_, rfl, h⟩)
    · wp_walk using wpAny_loadPart' ht, wpAny_pyIter_tuple hT
      exact ⟨_, rfl, h⟩
section
variable {prog : Program} {w : World} {A : Around} {E : Value → Shared → Prop} {s : Shared}
theorem call_enum_tup {t : Addr} {its : Array Value} {Q : Value → Shared → Prop} (hT : s.heap.IsTuple t its)
    (q : ∀ g, IsEnum g (s.heap.objs.size + 1) s.heap.objs.size 0 .none → g.IsTupleIter s.heap.objs.size t 0 → (∀ b o, s.heap.get? b = some o → g.get? b = some o) → Q (.ref (s.heap.objs.size + 1)) { s with heap := g }) :
    wpAny (model prog w) A (call (.type "enumerate") [.ref t]) Q E s := by
  obtain ⟨⟨c, dc, dt, sl⟩, ht, hc, n, hd⟩ := hT
  obtain rfl : c = .type "tuple" := hc
  obtain rfl : dt = .seq its n := hd
  refine callType_new F.called_enumerate (by decide) (F.typeCall_enumerate_1 _) (F.newCall_enumerate_1 _) (fun ob => F.args_object_init_2 ob _) F.entry_enumerate_new (en_new t its n dc sl) ⟨ht, ?_⟩
  have z : (s.heap.push (tIterOb t)).objs.size = s.heap.objs.size + 1 := Heap.size_push ..
  show _ ∧ _
  rw [z]
  have e1 : IsEnum ((s.heap.push (tIterOb t)).push (enumOb s.heap.objs.size)) (s.heap.objs.size + 1) s.heap.objs.size 0 .none := by
    have y := Heap.get?_push_size (s.heap.push (tIterOb t)) (o := enumOb s.heap.objs.size) rfl
    rw [z] at y; exact y
  exact ⟨⟨_, e1, rfl⟩, q _ e1 ⟨_, Heap.get?_push_of_some _ (Heap.get?_push_size _ rfl), rfl, rfl⟩ fun b o y => Heap.get?_push_of_some _ (Heap.get?_push_of_some _ y)⟩
end
section
variable {X : Cx}
def iEnT (K : PySem.W.Frag) (ta : TA) : TI := fun σ H R => ta σ H fun vs H1 => ∃ a, vs = [.ref a] ∧ (∃ xs, SqT K H1 a xs) ∧ R (Ite K a) H1
theorem qi_enumT {a : Expr} {ta : TA} {p pos tp : Pos} {elts : List Expr} {kk : Nat} (hm : X.mg "enumerate" = none) (ha : QA X [a] ta) (hg : Gl X "enumerate" := by rfl) (hs : starEach [a] X.env = [(false, eval a X.env)] := by rfl) :
    QI X (.Tuple elts kk tp) (.Call (.Name "enumerate" p) [a] [] pos) (iEnT X.K ta) := ⟨by
  intro pins s σ H R I h
  refine Call_ (ld_blt I hg hm boot_enumerate (PyProof.Rows.callWith_type1 (thn (ha.h pos pins s σ H _ I h) fun us s1 ⟨vs, H1, I1, r1, q1⟩ => ?_) hs rfl))
  obtain ⟨t, e, ⟨xs, hq⟩, q⟩ := q1
  subst e
  obtain ⟨u, rfl, ru⟩ := vals1 r1
  cases ru
  obtain ⟨its, rv, pt, hz⟩ := I1.tuple hq
  refine call_enum_tup (show s1.heap.IsTuple t its.toArray from pt) fun g e1 e2 kp => ?_
  refine wpAny_pyIter_enum e1 ?_
  refine ⟨s1.heap.objs.size + 1, [s1.heap.objs.size + 1, s1.heap.objs.size], _, _, H1, rfl, I1.kept (t' := s1.toks) kp, turn_enum t _ _ (Nat.succ_ne_self _), ⟨⟨_, e1⟩, e2⟩, fun b hb => ?_, q⟩
  have z : b = s1.heap.objs.size + 1 ∨ b = s1.heap.objs.size := by simpa using hb
  rcases z with rfl | rfl
  · exact I1.fpOk (Nat.le_succ _) (I1.hok.fresh (Nat.le_succ _))
  · exact I1.fpOk (Nat.le_refl _) (I1.hok.fresh (Nat.le_refl _))⟩
/-- a for over them -/
theorem for_enum {K : PySem.W.Frag} {a : Addr} {xs : List V} {g : TG} {tb : TS} {D : Ends} {σ : St} {H : Hp} (Pv : Nat → St → Hp → Prop) (h0 : Pv 0 σ H) (hl : ∀ i σ H, i ≤ xs.length → Pv i σ H → SqT K H a xs)
    (hs : ∀ i x σ H, xs[i]? = some x → Pv i σ H → ∀ p H1, H p = none → H1 = upd H p (.tup [.int i, x]) → g (.ref p) σ H1 fun σ2 H2 => tb { D with nx := Pv (i + 1), ct := Pv (i + 1), bk := D.nx } σ2 H2)
    (hd : ∀ σ H, Pv xs.length σ H → D.nx σ H) :
    ∃ W : Nat → Nat → St → Hp → Prop, (∃ m, W 0 m σ H) ∧ ∀ i m σ H, W i m σ H →
      ((Ite K a).stop i H ∧ D.nx σ H) ∨ ((Ite K a).go i H ∧ ∃ N : St → Hp → Prop, (∀ σ' H', N σ' H' → ∃ m', m' < m ∧ W (i + 1) m' σ' H') ∧ ∀ x H', (Ite K a).yld i H x H' → g x σ H' fun σ2 H2 => tb { D with nx := N, ct := N, bk := D.nx } σ2 H2) := by
  refine ⟨fun i m σ H => m = xs.length - i ∧ i ≤ xs.length ∧ Pv i σ H, ⟨xs.length, by simp, Nat.zero_le _, h0⟩, ?_⟩
  rintro i m σ H ⟨rfl, hi, p⟩
  have hS := hl i σ H hi p
  by_cases hlt : i < xs.length
  · refine .inr ⟨⟨xs, _, hS, List.getElem?_eq_getElem hlt⟩, Pv (i + 1), fun σ' H' p' => ⟨xs.length - (i + 1), by omega, rfl, hlt, p'⟩, fun x H' y => ?_⟩
    obtain ⟨ad, hn, rfl, hh⟩ := y
    exact hs i _ σ H (List.getElem?_eq_getElem hlt) p ad H' hn (hh xs _ hS (List.getElem?_eq_getElem hlt))
  · have e : i = xs.length := by omega
    subst e
    exact .inl ⟨⟨xs, hS, Nat.le_refl _⟩, hd σ H p⟩
end
end L2

namespace L2
open PySem PySem.Spec PyProof.Rows
/-! ### comprehensions by an invariant -/
/-- what is left to show where the iterator has come -/
def compK (cap : List (Option Nat)) (g : TG) (tc : TT) (te : TE) (σ : St) (Q : VK) (J : It) (H1 : Hp) : Prop := ∃ W : Nat → Nat → List V → Hp → Prop, (∃ m, W 0 m [] H1) ∧ ∀ i m ys H2, W i m ys H2 →
  (J.stop i H2 ∧ ys.length ≤ sizeLine ∧ ∀ p, H2 p = none → Q (.ref p) (upd H2 p (.lst ys))) ∨
  (J.go i H2 ∧ ∀ x H3, J.yld i H2 x H3 → g x (capSt cap σ) H3 fun σ2 H4 => tc σ2 H4 fun b H5 => if b = true then te σ2 H5 fun y H6 => ys.length < sizeLine ∧ ∃ m', m' < m ∧ W (i + 1) m' (ys ++ [y]) H6 else ∃ m', m' < m ∧ W (i + 1) m' ys H5)
theorem tComp_def {cap : List (Option Nat)} {wi : TI} {g : TG} {tc : TT} {te : TE} {σ : St} {H : Hp} {Q : VK} : tComp cap wi g tc te σ H Q = wi σ H (compK cap g tc te σ Q) := rfl
section
variable {cap : List (Option Nat)} {g : TG} {tc : TT} {te : TE} {σ : St} {H1 : Hp} {Q : VK} {n : Nat}
theorem comp_by {J : It} (hz : n ≤ sizeLine) (Pv : Nat → List V → Hp → Prop) (h0 : Pv 0 [] H1) (hgo : ∀ i ys H, i < n → Pv i ys H → J.go i H) (hstop : ∀ ys H, Pv n ys H → J.stop n H)
    (hs : ∀ i ys H, i < n → ys.length ≤ i → Pv i ys H → ∀ x H3, J.yld i H x H3 → g x (capSt cap σ) H3 fun σ2 H4 => tc σ2 H4 fun b H5 => if b = true then te σ2 H5 fun y H6 => Pv (i + 1) (ys ++ [y]) H6 else Pv (i + 1) ys H5)
    (hd : ∀ ys H2, ys.length ≤ n → Pv n ys H2 → ∀ p H3, H2 p = none → H3 = upd H2 p (.lst ys) → Q (.ref p) H3) : compK cap g tc te σ Q J H1 := by
  refine ⟨fun i m ys H => m = n - i ∧ i ≤ n ∧ ys.length ≤ i ∧ Pv i ys H, ⟨n, by simp, Nat.zero_le _, Nat.zero_le _, h0⟩, ?_⟩
  rintro i m ys H ⟨rfl, hi, hl, p⟩
  by_cases hlt : i < n
  · refine .inr ⟨hgo i ys H hlt p, fun x H3 y => ?_⟩
    have a1 : ∀ (v : V) (H6 : Hp), (ys.length < sizeLine ∧ ∃ m', m' < n - i ∧ (m' = n - (i + 1) ∧ i + 1 ≤ n ∧ (ys ++ [v]).length ≤ i + 1 ∧ Pv (i + 1) (ys ++ [v]) H6)) ↔ Pv (i + 1) (ys ++ [v]) H6 := fun v H6 =>
      ⟨fun ⟨_, _, _, _, _, _, q⟩ => q, fun q => ⟨by omega, _, by omega, rfl, hlt, by simp; omega, q⟩⟩
    have a2 : ∀ (H6 : Hp), (∃ m', m' < n - i ∧ (m' = n - (i + 1) ∧ i + 1 ≤ n ∧ ys.length ≤ i + 1 ∧ Pv (i + 1) ys H6)) ↔ Pv (i + 1) ys H6 := fun H6 => ⟨fun ⟨_, _, _, _, _, q⟩ => q, fun q => ⟨_, by omega, rfl, hlt, by omega, q⟩⟩
    simp only [a1, a2]
    exact hs i ys H hlt hl p x H3 y
  · have e : i = n := by omega
    subst e
    exact .inl ⟨hstop ys H p, by omega, fun pp hp => hd ys H hl p pp _ hp rfl⟩
theorem comp_range {lo : Int} (hz : n ≤ sizeLine) (Pv : Nat → List V → Hp → Prop) (h0 : Pv 0 [] H1)
    (hs : ∀ i ys H, i < n → ys.length ≤ i → Pv i ys H → g (.int (lo + i)) (capSt cap σ) H fun σ2 H4 => tc σ2 H4 fun b H5 => if b = true then te σ2 H5 fun y H6 => Pv (i + 1) (ys ++ [y]) H6 else Pv (i + 1) ys H5)
    (hd : ∀ ys H2, ys.length ≤ n → Pv n ys H2 → ∀ p H3, H2 p = none → H3 = upd H2 p (.lst ys) → Q (.ref p) H3) : compK cap g tc te σ Q (Itr lo n) H1 :=
  comp_by (J := Itr lo n) hz Pv h0 (fun _ _ _ h _ => h) (fun _ _ _ => Nat.le_refl _) (fun i ys H hi hl p x H3 ⟨e1, e2⟩ => by subst e1; subst e2; exact hs i ys _ hi hl p) hd
theorem comp_vals {vals : List V} (hz : vals.length ≤ sizeLine) (Pv : Nat → List V → Hp → Prop) (h0 : Pv 0 [] H1)
    (hs : ∀ i v ys H, vals[i]? = some v → ys.length ≤ i → Pv i ys H → g v (capSt cap σ) H fun σ2 H4 => tc σ2 H4 fun b H5 => if b = true then te σ2 H5 fun y H6 => Pv (i + 1) (ys ++ [y]) H6 else Pv (i + 1) ys H5)
    (hd : ∀ ys H2, ys.length ≤ vals.length → Pv vals.length ys H2 → ∀ p H3, H2 p = none → H3 = upd H2 p (.lst ys) → Q (.ref p) H3) : compK cap g tc te σ Q (Itv vals) H1 :=
  comp_by (J := Itv vals) hz Pv h0 (fun _ _ _ h _ => h) (fun _ _ _ => Nat.le_refl _) (fun i ys H hi hl p x H3 ⟨e1, e2⟩ => by subst e1; exact hs i x ys _ e2 hl p) hd
theorem comp_list {K : PySem.W.Frag} {a : Addr} {xs : List V} (hz : xs.length ≤ sizeLine) (Pv : Nat → List V → Hp → Prop) (h0 : Pv 0 [] H1) (hl : ∀ i ys H, i ≤ xs.length → Pv i ys H → SqL K H a xs)
    (hs : ∀ i v ys H, xs[i]? = some v → ys.length ≤ i → Pv i ys H → g v (capSt cap σ) H fun σ2 H4 => tc σ2 H4 fun b H5 => if b = true then te σ2 H5 fun y H6 => Pv (i + 1) (ys ++ [y]) H6 else Pv (i + 1) ys H5)
    (hd : ∀ ys H2, ys.length ≤ xs.length → Pv xs.length ys H2 → ∀ p H3, H2 p = none → H3 = upd H2 p (.lst ys) → Q (.ref p) H3) : compK cap g tc te σ Q (Itl K a) H1 :=
  comp_by (J := Itl K a) hz Pv h0 (fun i ys H h p => ⟨xs, _, hl i ys H (Nat.le_of_lt h) p, List.getElem?_eq_getElem h⟩) (fun ys H p => ⟨xs, hl _ ys H (Nat.le_refl _) p, Nat.le_refl _⟩) (fun i ys H hi hl' p x H3 ⟨e1, e2⟩ => by subst e1; exact hs i x ys _ (e2 xs (hl i ys _ (Nat.le_of_lt hi) p)) hl' p) hd
theorem comp_tup {K : PySem.W.Frag} {a : Addr} {xs : List V} (hz : xs.length ≤ sizeLine) (Pv : Nat → List V → Hp → Prop) (h0 : Pv 0 [] H1) (hl : ∀ i ys H, i ≤ xs.length → Pv i ys H → SqT K H a xs)
    (hs : ∀ i v ys H, xs[i]? = some v → ys.length ≤ i → Pv i ys H → g v (capSt cap σ) H fun σ2 H4 => tc σ2 H4 fun b H5 => if b = true then te σ2 H5 fun y H6 => Pv (i + 1) (ys ++ [y]) H6 else Pv (i + 1) ys H5)
    (hd : ∀ ys H2, ys.length ≤ xs.length → Pv xs.length ys H2 → ∀ p H3, H2 p = none → H3 = upd H2 p (.lst ys) → Q (.ref p) H3) : compK cap g tc te σ Q (Itt K a) H1 :=
  comp_by (J := Itt K a) hz Pv h0 (fun i ys H h p => ⟨xs, _, hl i ys H (Nat.le_of_lt h) p, List.getElem?_eq_getElem h⟩) (fun ys H p => ⟨xs, hl _ ys H (Nat.le_refl _) p, Nat.le_refl _⟩) (fun i ys H hi hl' p x H3 ⟨e1, e2⟩ => by subst e1; exact hs i x ys _ (e2 xs (hl i ys _ (Nat.le_of_lt hi) p)) hl' p) hd
end
end L2

namespace L2
open PySem PySem.Spec PyProof.Rows
/-! ### signs put in order -/
theorem ones_perm {zs : List (List Nat)} {m : List Nat} (h : zs.Perm (m.map fun c => [c])) : ∃ m' : List Nat, zs = m'.map (fun c => [c]) ∧ m'.Perm m := by
  refine ⟨zs.map fun z => z.headD 0, ?_, ?_⟩
  · rw [List.map_map]
    have : ∀ z ∈ zs, ((fun c => [c]) ∘ fun z : List Nat => z.headD 0) z = z := fun z hz => by
      obtain ⟨c, _, rfl⟩ := List.mem_map.mp (h.mem_iff.mp hz)
      rfl
    rw [List.map_congr_left this, List.map_id']
  · have e := h.map fun z : List Nat => z.headD 0
    rw [List.map_map] at e
    have : ((fun z : List Nat => z.headD 0) ∘ fun c => [c]) = id := rfl
    rw [this, List.map_id] at e
    exact e
theorem ones_flat (m : List Nat) : (m.map fun c => [c]).flatten = m := by
  induction m with
  | nil => rfl
  | cons c r ih => rw [List.map_cons, List.flatten_cons, ih]; rfl
theorem ones_rise : ∀ (p : Nat) (m : List Nat), risingS (tx [p]) (m.map fun c => tx [c]) = true → (∀ c ∈ m, p ≤ c) ∧ m.Pairwise (· ≤ ·)
  | p, [], _ => ⟨fun c h => by simp at h, .nil⟩
  | p, c :: r, h => by
    have h' : (!ltCps (tx [c]).cps.toList (tx [p]).cps.toList && risingS (tx [c]) (r.map fun c => tx [c])) = true := h
    rw [Bool.and_eq_true] at h'
    obtain ⟨a, b⟩ := h'
    obtain ⟨b1, b2⟩ := ones_rise c r b
    have hpc : p ≤ c := by
      rw [ltCps_eq] at a
      have a' : (!decide ([c] < [p])) = true := a
      have := of_decide_eq_false (Bool.not_eq_true' _ ▸ a')
      rcases Nat.lt_or_ge c p with z | z
      · exact absurd (List.Lex.rel z) this
      · exact z
    refine ⟨fun x hx => ?_, List.pairwise_cons.mpr ⟨b1, b2⟩⟩
    rcases List.mem_cons.mp hx with rfl | hx
    · exact hpc
    · exact Nat.le_trans hpc (b1 x hx)
theorem ones_sorted : ∀ (m : List Nat), sortedS ((m.map fun c => [c]).map tx) = true → m.Pairwise (· ≤ ·)
  | [], _ => .nil
  | c :: r, h => by
    have h' : risingS (tx [c]) ((r.map fun c => [c]).map tx) = true := h
    rw [List.map_map] at h'
    obtain ⟨a, b⟩ := ones_rise c r h'
    exact List.pairwise_cons.mpr ⟨a, b⟩
theorem ones_lens (m : List Nat) : ((m.map fun c => [c]).map List.length).sum = m.length := by
  induction m with
  | nil => rfl
  | cons c r ih => simp only [List.map_cons, List.sum_cons, List.length_cons, List.length_nil] at ih ⊢; omega
end L2
set_option Elab.async false
set_option linter.all false
set_option maxRecDepth 100000
set_option maxHeartbeats 4000000
/-! sorted(set(..)) of signs: the set is made, walked in whatever order, put in order, and never seen. -/
namespace L2
open PySem PySem.Spec PyProof.Rows
/-! ### facts of the types -/
theorem own_sit : Manifest.owners.lookup (String.ofList ("rotareti_tes".toList).reverse) = some Manifest.sig_set_iterator := by kernel_rfl
theorem sl_sit_next : Slot "set_iterator" "__next__" "set_iterator.__next__" := .of (owner := "set_iterator") (n := "__next__") (by rw [typeLookup_type, builtinLookup_eq_fast]; kernel_rfl) (by decide +kernel) (by decide +kernel) (by decide +kernel) (by first | exact .inl (by decide +kernel) | exact .inr (by decide +kernel)) (by rw [isSubtype_type]; kernel_rfl)
theorem en_sit_next : entryFor table "set_iterator.__next__" = some Builtin.«set_iterator.__next__» := entryFor_of_tree (by kernel_rfl)
theorem ar_sit_next (a : Value) : argsOk "set_iterator.__next__" ⟨[a], []⟩ := by unfold argsOk; kernel_rfl
theorem en_set_iter : entryFor table "set.__iter__" = some Builtin.«frozenset.__iter__» := entryFor_alias (id' := "frozenset.__iter__") (by kernel_rfl) (by first | rfl | decide +kernel | (unfold String.splitOn; simp +decide [String.splitOnAux])) (by decide +kernel) (by kernel_rfl)
/-! ### the table's marks -/
def byTx (w : World) : Bool := w.params.followText "set-order"
def TabOk (w : World) (n : Nat) (t : SetTable) : Prop := (byTx w = true ∨ t.led = true) ∧ (n = 0 ∨ t.plain = false)
theorem lay_marks (t : SetTable) (es : Array (Int × Value)) (h : Int) (x : Value) : (layNew t es h x).2.1.led = t.led ∧ (t.plain = false → (layNew t es h x).2.1.plain = false) := by
  unfold layNew
  split
  · dsimp only
    unfold SetTable.orStandIn
    split
    · exact ⟨rfl, fun z => z⟩
    · exact ⟨rfl, fun _ => rfl⟩
  · exact ⟨rfl, fun _ => rfl⟩
theorem relaid_marks {t t' : SetTable} {hs : Array Int} {n : Nat} {o : Array Nat} (h : t.relaid hs n = some (t', o)) : t'.led = t.led ∧ t'.plain = t.plain := by
  unfold SetTable.relaid SetTable.laid at h
  cases hc : SetTable.layClean (SetTable.sizeAbove n - 1) hs with
  | none => rw [hc] at h; cases h
  | some ow =>
    rw [hc] at h
    have h' := Option.some.inj h
    obtain ⟨a, _⟩ := Prod.mk.inj h'
    subst a
    exact ⟨rfl, rfl⟩
theorem relay_marks (t : SetTable) (es : Array (Int × Value)) (n : Nat) : (relayAll t es n).2.1.led = t.led ∧ (t.plain = false → (relayAll t es n).2.1.plain = false) := by
  unfold relayAll
  split
  · rename_i t' o he
    obtain ⟨a, b⟩ := relaid_marks he
    dsimp only
    split
    · exact ⟨a, fun z => b.trans z⟩
    · exact ⟨rfl, fun _ => rfl⟩
  · exact ⟨rfl, fun _ => rfl⟩
section
variable {prog : Program} {w : World}
/-- the set at a holds just the texts ks -/
def SetT (prog : Program) (w : World) (h : Heap) (a : Addr) (ks : List Str) : Prop :=
  ∃ o es ep t, h.get? a = some o ∧ o.ExactSet ∧ o.data = .set es ep t ∧ ElemsOf (PySem.strKind prog w) es.toList ∧ (es.toList.map fun e => strOf e.2).Perm ks ∧ es.size < scanBound ∧ t.fits es.size = true ∧ TabOk w es.size t
theorem elem_str {l : List (Int × Value)} (h : ElemsOf (PySem.strKind prog w) l) : ∀ e ∈ l, ∃ t, e.2 = .str (strOf e.2) t := fun e he => by
  obtain ⟨⟨k, hk, _⟩, _⟩ := h e he
  obtain ⟨t, ht⟩ := Value.isStrOf_shape hk
  exact ⟨t, by rw [ht]; rfl⟩
theorem isStr_iff {k : Str} {e : Int × Value} {l : List (Int × Value)} (h : ElemsOf (PySem.strKind prog w) l) (he : e ∈ l) : (PySem.strKind prog w).is k e.2 = true ↔ k = strOf e.2 := by
  obtain ⟨t, ht⟩ := elem_str h e he
  constructor
  · intro z
    obtain ⟨u, hu⟩ := Value.isStrOf_shape z
    rw [hu]; rfl
  · intro z
    show Value.isStrOf k e.2 = true
    rw [ht, z]
    show Value.isStrOf (strOf e.2) (.str (strOf e.2) t) = true
    unfold Value.isStrOf; simp
theorem SetT.keep {h h' : Heap} {a : Addr} {ks : List Str} (z : SetT prog w h a ks) (k : ∀ o, h.get? a = some o → h'.get? a = some o) : SetT prog w h' a ks := let ⟨o, es, ep, t, ho, r⟩ := z; ⟨o, es, ep, t, k o ho, r⟩
variable {A : Around} {E : Value → Shared → Prop} {s : Shared}
theorem set_add {a : Addr} {ks : List Str} {x : Str} {tk : Tok} {Q : Bool → Shared → Prop} (z : SetT prog w s.heap a ks) (hroom : ks.length + 1 < scanBound)
    (q : ∀ b g, Heap.SameBut a s.heap g → SetT prog w g a (if x ∈ ks then ks else ks ++ [x]) → Q b { s with heap := g }) : wpAny (model prog w) A (setAddHashed a (.str x tk) ((PySem.strKind prog w).hash x)) Q E s := by
  obtain ⟨o, es, ep, t, ho, hex, hd, hel, hp, hb, hf, hto⟩ := z
  have hlen : es.size = ks.length := by have := hp.length_eq; simpa using this
  have hkey : (PySem.strKind prog w).is x (.str x tk) = true := by show Value.isStrOf x (.str x tk) = true; unfold Value.isStrOf; simp
  have hsc : (Value.str x tk).scannable = true := rfl
  unfold setAddHashed setAddHashedIn
  refine wpAny_holding (wpAny_bind (wpAny_setState_of ho hd hf ?_))
  dsimp only
  rw [byScan_of hsc hb hel, if_pos rfl]
  unfold setAddByScan
  refine wpAny_bind (wpAny_bind (wpAny_rule (wpAny_bind (wpAny_setScan_of hkey ho hd hf hel ?_))))
  cases hr : List.findIdx? (fun e => (PySem.strKind prog w).is x e.2) es.toList with
  | some j =>
    obtain ⟨hj, hpj, _⟩ := List.findIdx?_eq_some_iff_getElem.mp hr
    have hin : x ∈ ks := hp.mem_iff.mp (List.mem_map.mpr ⟨es.toList[j], List.getElem_mem hj, ((isStr_iff hel (List.getElem_mem hj)).mp hpj).symm⟩)
    refine wpAny_pure (wpAny_pure ?_)
    have e1 := q false s.heap (Heap.SameBut.refl a s.heap) (by rw [if_pos hin]; exact ⟨o, es, ep, t, ho, hex, hd, hel, hp, hb, hf, hto⟩)
    exact e1
  | none =>
    have hin : ¬ x ∈ ks := fun hx => by
      obtain ⟨e, he, hxe⟩ := List.mem_map.mp (hp.mem_iff.mpr hx)
      have y := List.findIdx?_eq_none_iff.mp hr e he
      rw [(isStr_iff hel he).mpr hxe.symm] at y
      cases y
    have q' := fun b g h1 h2 => q b g h1 (by rw [if_neg hin]; exact h2)
    dsimp only
    have lp := layNew_perm t es ((PySem.strKind prog w).hash x) (.str x tk)
    have lf := layNew_fits t es ((PySem.strKind prog w).hash x) (.str x tk)
    have lm := lay_marks t es ((PySem.strKind prog w).hash x) (.str x tk)
    generalize layNew t es ((PySem.strKind prog w).hash x) (.str x tk) = L at lp lf lm ⊢
    obtain ⟨es1, t1, wd, gv⟩ := L
    dsimp only at lp lf lm ⊢
    rw [Array.toList_push] at lp
    have el1 : ElemsOf (PySem.strKind prog w) es1.toList := (hel.push hkey hsc).perm lp
    have sz1 : es1.size = es.size + 1 := by have := lp.length_eq; simpa using this
    have b1 : es1.size < scanBound := by omega
    have p1 : (es1.toList.map fun e => strOf e.2).Perm (ks ++ [x]) := by
      have y := lp.map fun e : Int × Value => strOf e.2
      rw [List.map_append] at y
      exact y.trans (hp.append_right _)
    have gw : ∀ (b : Bool) {s₁ : Shared} {Q' : Unit → Shared → Prop}, Q' () s₁ → wpAny (model prog w) A (match b with | true => rule "set.scan.the-table-gave-way" | false => pure ()) Q' E s₁ := fun b _ _ y => by cases b <;> first | exact wpAny_pure y | exact wpAny_rule y
    refine wpAny_bind (gw _ ?_)
    -- the element's hash is no value of its own: the table is plain no more
    have fin : ∀ t2 : SetTable, t2.fits es1.size = true → t2.led = t.led → t2.plain = false → wpAny (model prog w) A (do
        storeSet a es1 t2
        if (!wd && t2.tooFull) = true then do
            (match (relayAll t2 es1 (SetTable.grown es1.size)).2.2 with | true => rule "set.scan.the-table-gave-way" | false => pure ())
            storeSet a (relayAll t2 es1 (SetTable.grown es1.size)).1 (relayAll t2 es1 (SetTable.grown es1.size)).2.1
            pure (some true)
          else pure (some true)) (fun r s' => wpAny (model prog w) A (match r with | some added => pure added | none => setAddHashedIn a (.str x tk) ((PySem.strKind prog w).hash x) 99999) Q E s') E s := by
      intro t2 f2 l2 n2
      have to2 : TabOk w es1.size t2 := ⟨by rw [l2]; exact hto.1, .inr n2⟩
      refine wpAny_bind (wpAny_storeSet_of ho hd ?_ (fits_of_scanBound b1))
      have g1 : (s.heap.update a (Obj.putSet es1 t2)).get? a = some { o with data := .set es1 (ep + 1) t2 } := by
        have y := Heap.get?_update_self (Obj.putSet es1 t2) ho (by rw [putSet_of es1 t2 hd]; rfl)
        rw [putSet_of es1 t2 hd] at y; exact y
      have sb := Heap.SameBut.update s.heap a (Obj.putSet es1 t2)
      split
      · have rp := relayAll_perm t2 es1 (SetTable.grown es1.size)
        have rf := relayAll_fits t2 es1 (SetTable.grown es1.size)
        have rm := relay_marks t2 es1 (SetTable.grown es1.size)
        generalize relayAll t2 es1 (SetTable.grown es1.size) = R at rp rf rm ⊢
        obtain ⟨es2, t3, gv2⟩ := R
        dsimp only at rp rf rm ⊢
        have sz2 : es2.size = es1.size := by have := rp.length_eq; simpa using this
        refine wpAny_bind (gw _ (wpAny_bind (wpAny_storeSet_of g1 rfl (wpAny_pure (wpAny_pure ?_)) (fits_of_scanBound (by omega)))))
        have g2 : ((s.heap.update a (Obj.putSet es1 t2)).update a (Obj.putSet es2 t3)).get? a = some { o with data := .set es2 (ep + 1 + 1) t3 } := by
          have y := Heap.get?_update_self (Obj.putSet es2 t3) g1 (by rw [putSet_of es2 t3 rfl]; rfl)
          rw [putSet_of es2 t3 rfl] at y; exact y
        refine q' true _ (sb.trans (Heap.SameBut.update _ a _)) ⟨_, es2, _, t3, g2, hex, rfl, el1.perm rp, ?_, by omega, rf, ?_⟩
        · exact (rp.map fun e : Int × Value => strOf e.2).trans p1
        · exact ⟨by rw [rm.1, l2]; exact hto.1, .inr (rm.2 n2)⟩
      · exact wpAny_pure (wpAny_pure (q' true _ sb ⟨_, es1, _, t2, g1, hex, rfl, el1, p1, b1, f2, to2⟩))
    by_cases hpl : t1.plain = true
    · rw [if_pos hpl, hashByValue_scannable 8 hsc]
      refine wpAny_bind (wpAny_pure ?_)
      exact fin { t1 with plain := false } (SetTable.fits_plain_off lf) lm.1 rfl
    · rw [if_neg hpl]
      refine wpAny_bind (wpAny_pure ?_)
      exact fin t1 lf lm.1 (by simpa using hpl)
end
end L2

namespace L2
open PySem PySem.Spec PyProof.Rows
section
variable {prog : Program} {w : World} {A : Around} {R : Result → Shared → Prop} {I : Addr} {fp wr : List Addr} {n : Nat} {P : Nat → Value → Prop} {St : Nat → Heap → Prop}
/-- what the set holds when i texts have come -/
def Met (prog : Program) (w : World) (val : Nat → Str) (h : Heap) (a : Addr) (i : Nat) : Prop := ∃ ks, SetT prog w h a ks ∧ ks.Nodup ∧ (∀ x, x ∈ ks ↔ ∃ j, j < i ∧ val j = x) ∧ ks.length ≤ i
theorem set_fill (W : Walks prog w A.in1 I fp wr n P St) (S : Addr) (hSf : S ∉ fp) (val : Nat → Str) (hval : ∀ i v, P i v → ∃ t, v = .str (val i) t) (hb : n + 1 < scanBound) :
    ∀ (k i : Nat) (s : Shared), n - i = k → i ≤ n → St i s.heap → Met prog w val s.heap S i →
      (∀ g tk, Met prog w val g S n → (∀ b o, b ≠ S → b ∉ wr → s.heap.get? b = some o → g.get? b = some o) → R (.ok (.ret .none)) { s with heap := g, toks := tk }) →
      codeAny (model prog w) A (.builtin "set.update.loop" ⟨[.ref S, .ref I], []⟩) R s := by
  have hSw : S ∉ wr := fun h => hSf (W.sub _ h)
  intro k
  induction k with
  | zero =>
    intro i s hk hi st hM hR
    obtain rfl : i = n := by omega
    refine codeAny_builtin PyProof.Rows.F.entry_set_update_loop ?_
    rw [Around.under_plainId PyProof.Rows.F.plain_set_update_loop _]
    show wpAny _ A.in1 (pyNext (.ref I) >>= _) _ _ s
    refine wpAny_bind (W.done s _ _ st fun g tk kp => wpAny_pure (hR g tk ?_ fun b o _ hb e => kp b o hb e))
    obtain ⟨ks, z, r⟩ := hM
    exact ⟨ks, z.keep fun o e => kp S o hSw e, r⟩
  | succ k ih =>
    intro i s hk hi st hM hR
    have hlt : i < n := by omega
    refine codeAny_builtin PyProof.Rows.F.entry_set_update_loop ?_
    rw [Around.under_plainId PyProof.Rows.F.plain_set_update_loop _]
    show wpAny _ A.in1 (pyNext (.ref I) >>= _) _ _ s
    refine wpAny_bind (W.item i s _ _ hlt st fun v g tk hP st' kp => ?_)
    obtain ⟨t, rfl⟩ := hval i v hP
    obtain ⟨ks, z, nd, mem, len⟩ := hM
    have z' : SetT prog w g S ks := z.keep fun o e => kp S o hSw e
    refine wpAny_bind (wpAny_holding ?_)
    unfold setAdd
    refine wpAny_holding (wpAny_bind ((PySem.strKind prog w).pyHash (k := val i) (show Value.isStrOf (val i) (.str (val i) t) = true by unfold Value.isStrOf; simp) ?_))
    refine set_add (s := { s with heap := g, toks := tk + 1 }) z' (by omega) fun _ g2 sb z2 => ?_
    refine wpAny_pure ⟨plainId_quiet PyProof.Rows.F.plain_set_update_loop _, ih (i + 1) _ (by omega) hlt (W.frame _ _ _ st' fun b hb o e => ?_) ?_ fun g3 tk3 hM3 kp3 => ?_⟩
    · rw [sb.2 b (fun h : b = S => hSf (by rw [← h]; exact hb))]; exact e
    · refine ⟨_, z2, ?_, fun x => ?_, ?_⟩
      · by_cases hx : val i ∈ ks
        · rw [if_pos hx]; exact nd
        · rw [if_neg hx]; exact List.nodup_append.mpr ⟨nd, by simp, fun a ha b hb => by rw [List.mem_singleton] at hb; subst hb; exact fun e => hx (e ▸ ha)⟩
      · by_cases hx : val i ∈ ks
        · rw [if_pos hx, mem x]
          constructor
          · rintro ⟨j, hj, e⟩; exact ⟨j, by omega, e⟩
          · rintro ⟨j, hj, e⟩
            by_cases hji : j = i
            · subst hji; subst e; exact (mem _).mp hx
            · exact ⟨j, by omega, e⟩
        · rw [if_neg hx, List.mem_append, mem x, List.mem_singleton]
          constructor
          · rintro (⟨j, hj, e⟩ | e)
            · exact ⟨j, by omega, e⟩
            · exact ⟨i, by omega, e.symm⟩
          · rintro ⟨j, hj, e⟩
            by_cases hji : j = i
            · subst hji; exact .inr e.symm
            · exact .inl ⟨j, by omega, e⟩
      · by_cases hx : val i ∈ ks
        · rw [if_pos hx]; omega
        · rw [if_neg hx, List.length_append, List.length_singleton]; omega
    · exact hR g3 tk3 hM3 fun b o hb hw e => kp3 b o hb hw ((sb.2 b hb).trans (kp b o hw e))
end
section
variable {prog : Program} {w : World} {A : Around} {E : Value → Shared → Prop} {s : Shared}
abbrev newSetOb (w : World) : Obj := { cls := .type "set", dict := none, data := .set #[] 0 (.fresh 0 0 (!byTx w)) }
theorem code_set_mk (a : Value) {Q₁ : Value → Shared → Prop} (h : Q₁ (.ref s.heap.objs.size) { s with heap := s.heap.push (newSetOb w) }) :
    codeAny (model prog w) A (.call (.builtin "set.__new__") ⟨[.type "set", a], []⟩) (wants Q₁ E) s := by
  refine codeAny_of_tree ?_
  show wpAny _ A.in1 (do checkBuiltinCall "set.__new__" ⟨[.type "set", a], []⟩; again (.builtin "set.__new__" ⟨[.type "set", a], []⟩)) _ _ s
  refine wpAny_bind (wpAny_of_eq (PySem.F.newCall_set_1 a) (wpAny_pure ⟨plainId_quiet PySem.F.plain_set_new _, codeAny_builtin PySem.F.entry_set_new ?_⟩))
  rw [Around.under_plainId PySem.F.plain_set_new _]
  unfold Builtin.«set.__new__» Builtin.Frozenset.newClass
  have sb := sub_set_self
  obtain ⟨hp, g, d, tk, os⟩ := s
  dsimp only
  wp_walk
  refine wpAny_askSetting (wpAny_pure ?_)
  dsimp only
  simp only [newObj]
  exact wpAny_bind (wpAny_alloc (wpAny_pure (wpAny_pure h)))
set_option maxHeartbeats 8000000 in
/-- set(v) of something that is walked: its texts, each once -/
theorem call_set_walk {v : Value} {T : String} {iob : Obj} {fp : Addr → List Addr} {n : Nat} {P : Nat → Value → Prop} {St : Addr → Nat → Heap → Prop} {val : Nat → Str} {Q : Value → Shared → Prop} (hT : Shared.TypeIs { s with heap := s.heap.push (newSetOb w) } v T)
    (n1 : isSubtype (.type T) (.type "set") = pure false) (n2 : isSubtype (.type T) (.type "frozenset") = pure false) (n3 : (Value.type T == Value.type "dict") = false)
    (hit : ∀ (A : Around) (E : Value → Shared → Prop) (Q : Value → Shared → Prop), Q (.ref (s.heap.objs.size + 1)) { s with heap := (s.heap.push (newSetOb w)).push iob } → wpAny (model prog w) A (pyIter v) Q E { s with heap := s.heap.push (newSetOb w) })
    (W : ∀ (A : Around) (it : Addr), A.handled = none → it = s.heap.objs.size + 1 → Walks prog w A it (fp it) [it] n P (St it)) (hfp : s.heap.objs.size ∉ fp (s.heap.objs.size + 1)) (st : St (s.heap.objs.size + 1) 0 ((s.heap.push (newSetOb w)).push iob)) (hval : ∀ i v, P i v → ∃ t, v = .str (val i) t)
    (hh : A.handled = none) (hb : n + 1 < scanBound)
    (q : ∀ g tk, Met prog w val g s.heap.objs.size n → (∀ b o, s.heap.get? b = some o → g.get? b = some o) → Q (.ref s.heap.objs.size) { s with heap := g, toks := tk }) :
    wpAny (model prog w) A (call (.type "set") [v]) Q E s := by
  obtain ⟨c, tl, hmro⟩ := PySem.F.called_set.mro
  have hmade := PySem.F.called_set.made
  have hsub := PySem.F.called_set.sub
  refine wpAny_call (codeAny_of_tree ?_)
  show wpAny _ _ (callAny (.type "set") _) _ _ _
  refine wpAny_pure ⟨Code.quiet_builtin _ (by decide +kernel), codeAny_builtin PySem.F.entry_type_call ?_⟩
  rw [Around.under_plain (weight_type_call_type "set" [v] []) rfl]
  have h1 := PySem.F.called_set.notType
  have h2 := PySem.F.called_set.canCreate
  have hct := PySem.F.typeCall_set_1 v
  repeat (any_goals (first | assumption | wp_step))
  refine codeAny_mono (code_set_mk v (E := E) (Q₁ := fun obj s₁ => obj = .ref s.heap.objs.size ∧ s₁ = { s with heap := s.heap.push (newSetOb w) }) ⟨rfl, rfl⟩) fun r s₁ hr => ?_
  cases r with
  | error e => exact hr
  | ok fl =>
    cases fl with
    | ret obj =>
      obtain ⟨rfl, rfl⟩ := hr
      have gS : (s.heap.push (newSetOb w)).get? s.heap.objs.size = some (newSetOb w) := Heap.get?_push_size _ rfl
      have tS : Shared.TypeIs { s with heap := s.heap.push (newSetOb w) } (.ref s.heap.objs.size) "set" := ⟨_, gS, rfl⟩
      have hli := PySem.F.called_set.init.lookup
      have hbi := PySem.F.called_set.init.bind (.ref s.heap.objs.size)
      repeat (any_goals (first | assumption | wp_step))
      refine codeAny_mono (codeAny_call_builtin (R := wants (fun r s₂ => r = .none ∧ ∃ g tk, s₂ = { s with heap := g, toks := tk } ∧ Met prog w val g s.heap.objs.size n ∧ (∀ b o, s.heap.get? b = some o → g.get? b = some o)) E) PySem.F.called_set.init.plain PySem.F.entry_set_init (check_set_init_1 tS ?_)) fun r₂ s₂ hr₂ => ?_
      · unfold Builtin.«set.__init__» noKeywords Builtin.Frozenset.updateFrom
        generalize hPI : pyIter = PI
        wp_walk
        subst hPI
        refine hit _ _ _ (wpAny_bind (wpAny_runValue ?_))
        have g0 : ((s.heap.push (newSetOb w)).push iob).get? s.heap.objs.size = some (newSetOb w) := Heap.get?_push_of_some _ gS
        have m0 : Met prog w val ((s.heap.push (newSetOb w)).push iob) s.heap.objs.size 0 := ⟨[], ⟨_, #[], 0, _, g0, ⟨rfl, rfl, rfl⟩, rfl, fun e he => by simp at he, by simp, by unfold scanBound; decide, rfl, ?_⟩, List.nodup_nil, fun x => by simp, Nat.le_refl _⟩
        · refine set_fill (W _ _ (by simpa using hh) rfl) s.heap.objs.size hfp val hval hb (n - 0) 0 _ rfl (Nat.zero_le _) st m0 fun g tk hM kp => ?_
          refine wpAny_pure (wpAny_pure ⟨rfl, g, tk, rfl, hM, fun b o e => kp b o (Nat.ne_of_lt (Heap.lt_size e)) (fun hbm => ?_) (Heap.get?_push_of_some _ (Heap.get?_push_of_some _ e))⟩)
          rw [List.mem_singleton] at hbm
          exact absurd (Heap.lt_size e) (by rw [hbm]; exact Nat.not_lt.mpr (Nat.le_succ _))
        · refine ⟨?_, .inl rfl⟩
          show byTx w = true ∨ (!byTx w) = true
          cases byTx w <;> simp
      · cases r₂ with
        | error e => exact hr₂
        | ok fl₂ =>
          cases fl₂ with
          | ret r =>
            obtain ⟨rfl, g, tk, rfl, hM, kp⟩ := hr₂
            repeat (any_goals (first | assumption | wp_step))
            exact q g tk hM kp
          | _ => exact hr₂.elim
    | _ => exact hr.elim
end
end L2
set_option Elab.async false
set_option linter.all false
set_option maxRecDepth 100000
set_option maxHeartbeats 4000000
namespace L2
open PySem PySem.Spec PyProof.Rows
theorem erase_perm {α : Type} : ∀ {l : List α} {i : Nat} (h : i < l.length), (l[i] :: l.eraseIdx i).Perm l
  | x :: r, 0, _ => List.Perm.refl _
  | x :: r, i + 1, h => (List.Perm.swap x (r[i]'(by simpa using h)) (r.eraseIdx i)).trans ((erase_perm (l := r) (i := i) (by simpa using h)).cons x)
section
variable {M : Model} {A : Around} {E : Value → Shared → Prop}
theorem wp_choose_any {s : Shared} {src : Source} {n : Nat} {Q : Nat → Shared → Prop} (hn : n ≠ 0) (h : ∀ i, i < n → ∀ d, Q i { s with drawn := d }) : wpAny M A (choose src n) Q E s := fun _ _ _ => ⟨hn, h _ (Nat.mod_lt _ (Nat.pos_of_ne_zero hn)) _⟩
theorem draw_any {α : Type} : ∀ (n : Nat) (xs : List α) (s : Shared) (Q : List α → Shared → Prop), xs.length = n → (∀ ys, ys.Perm xs → ∀ d, Q ys { s with drawn := d }) → wpAny M A (drawOrder n xs) Q E s
  | 0, xs, s, Q, hl, h => by
    have e : xs = [] := List.eq_nil_of_length_eq_zero hl
    subst e
    unfold drawOrder
    exact wpAny_pure (h [] (List.Perm.refl _) s.drawn)
  | n + 1, [], s, Q, hl, h => by simp at hl
  | n + 1, x :: r, s, Q, hl, h => by
    unfold drawOrder
    refine wpAny_bind (wp_choose_any (by simp) fun i hi d => ?_)
    have e : (x :: r)[i]? = some (x :: r)[i] := List.getElem?_eq_getElem hi
    rw [e]
    dsimp only
    refine wpAny_bind (draw_any n ((x :: r).eraseIdx i) _ _ (by rw [List.length_eraseIdx, if_pos hi]; simp at hl ⊢; omega) fun ys hp d' => wpAny_pure (h _ ?_ d'))
    exact (List.Perm.cons _ hp).trans (erase_perm hi)
theorem pick_go {α : Type} (next : Nat → Nat) : ∀ (fuel k : Nat) (left : List α) (out : Array α), left.length = fuel → (pickOrder.go next fuel k left out).toList.Perm (out.toList ++ left)
  | 0, k, left, out, h => by
    have e : left = [] := List.eq_nil_of_length_eq_zero h
    subst e
    unfold pickOrder.go
    simp
  | fuel + 1, k, left, out, h => by
    have hlt : next k % left.length < left.length := Nat.mod_lt _ (by omega)
    unfold pickOrder.go
    rw [List.getElem?_eq_getElem hlt]
    dsimp only
    refine (pick_go next fuel (k + 1) _ _ (by rw [List.length_eraseIdx, if_pos hlt]; omega)).trans ?_
    rw [Array.toList_push, List.append_assoc]
    exact List.Perm.append_left _ (erase_perm hlt)
theorem pick_perm {α : Type} (next : Nat → Nat) (xs : Array α) : (pickOrder next xs).toList.Perm xs.toList := by
  unfold pickOrder
  have := pick_go next xs.size 0 xs.toList #[] (by simp)
  simpa using this
end
/-! ### the walker over a set -/
abbrev sitOb (f : Value) (i : Int) (S : Addr) (n ep : Nat) : Obj := { cls := .type "set_iterator", dict := none, data := .fields #[f, rawInt i, .ref S, rawInt n, rawInt ep], slots := #[] }
section
variable {prog : Program} {w : World} {A : Around} {E : Value → Shared → Prop} {s : Shared}
theorem raise_stop {Q : Fin → Shared → Prop} (hh : A.handled = none) (q : ∀ g e, (∀ b o, s.heap.get? b = some o → g.get? b = some o) → (∃ o, g.get? e = some o ∧ o.cls = .type "StopIteration") → E (.ref e) { s with heap := g }) :
    wpAny (model prog w) A (do let x ← newExc (.type "StopIteration") []; raiseNew x) Q E s := by
  refine wpAny_bind ?_
  simp only [newExc, newTuple]
  refine wpAny_bind (wpAny_newObj_type (wpAny_bind (m := firstArgMember _ _) (wpAny_of_eq (a := Value.none) (by first | rfl | (simp only [firstArgMember]; rfl)) (wpAny_newObj_type ?_ (by size_fits)))) (by size_fits))
  simp only [raiseNew]
  refine wpAny_bind (wpAny_handled ?_)
  rw [hh]
  exact wpAny_bind (wpAny_pure (wpAny_throw (q _ _ (fun b o e => Heap.get?_push_of_some _ (Heap.get?_push_of_some _ e)) ⟨_, Heap.get?_push_size _ rfl, rfl⟩)))
/-- the set at S, as it stands -/
structure SetAt (w : World) (h : Heap) (S : Addr) (es : Array (Int × Value)) (ep : Nat) (t : SetTable) : Prop where
  ex : ∃ o, h.get? S = some o ∧ o.ExactSet ∧ o.data = .set es ep t
  fits : t.fits es.size = true
theorem SetAt.keep {h h' : Heap} {S : Addr} {es : Array (Int × Value)} {ep : Nat} {t : SetTable} (z : SetAt w h S es ep t) (k : ∀ o, h.get? S = some o → h'.get? S = some o) : SetAt w h' S es ep t := ⟨let ⟨o, ho, r⟩ := z.ex; ⟨o, k o ho, r⟩, z.fits⟩
/-- by places: the walker bears a tuple of them -/
theorem sit_place {it S p : Addr} {i n ep k : Nat} {es : Array (Int × Value)} {t : SetTable} {pv : Array Value} {pn : Nat} {x : Int × Value} {Q : Option Value → Shared → Prop} (hit : s.heap.get? it = some (sitOb (.ref p) i S n ep)) (hS : SetAt w s.heap S es ep t) (hn : es.size = n)
    (hp : ∃ o, s.heap.get? p = some o ∧ o.cls = .type "tuple" ∧ o.data = .seq pv pn) (hk : pv[i]? = some (rawInt k)) (hx : es[k]? = some x)
    (q : ∀ g, g.get? it = some (sitOb (.ref p) ((i : Int) + 1) S n ep) → Heap.SameBut it s.heap g → Q (some x.2) { s with heap := g }) : wpAny (model prog w) A (pyNext (.ref it)) Q E s := by
  obtain ⟨o, ho, hex, hd⟩ := hS.ex
  obtain ⟨op, hop, hcp, hdp⟩ := hp
  have T : Shared.TypeIs s (.ref it) "set_iterator" := ⟨_, hit, rfl⟩
  unfold pyNext
  refine wpAny_bind (wpAny_attempt (wpAny_callSpecial?_slot (name := Str.ofString "__next__") T sl_sit_next (wpAny_call_entry sl_sit_next T en_sit_next ?_ (ar_sit_next _))))
  show wpAny _ _ (fieldsOf (.ref it) >>= _) _ _ s
  refine wpAny_bind (wpAny_fieldsOf hit rfl ?_)
  dsimp only
  refine wpAny_bind (wpAny_setEntries_of ho hd hS.fits ?_)
  rw [if_neg (by rw [hn]; simp)]
  refine wpAny_bind (wpAny_seqItems hop hdp ?_)
  simp only [Int.toNat_natCast, hk]
  unfold setNextDrawn
  refine wpAny_bind (wpAny_bind (wpAny_setState_of ho hd hS.fits ?_))
  dsimp only
  rw [if_neg (by simp), Int.toNat_natCast, hx]
  refine wpAny_pure (wpAny_bind (wpAny_setField_rec hit (by simp) fun g e1 e2 => wpAny_pure ⟨_, rfl, wpAny_pure (q g (by simpa using e1) e2)⟩))
theorem sit_place_end {it S p : Addr} {i n ep : Nat} {es : Array (Int × Value)} {t : SetTable} {pv : Array Value} {pn : Nat} {Q : Option Value → Shared → Prop} (hh : A.handled = none) (hit : s.heap.get? it = some (sitOb (.ref p) i S n ep)) (hS : SetAt w s.heap S es ep t) (hn : es.size = n)
    (hp : ∃ o, s.heap.get? p = some o ∧ o.cls = .type "tuple" ∧ o.data = .seq pv pn) (hk : pv[i]? = none)
    (q : ∀ g, (∀ b o, b ≠ it → s.heap.get? b = some o → g.get? b = some o) → Q none { s with heap := g }) : wpAny (model prog w) A (pyNext (.ref it)) Q E s := by
  obtain ⟨o, ho, hex, hd⟩ := hS.ex
  obtain ⟨op, hop, hcp, hdp⟩ := hp
  have T : Shared.TypeIs s (.ref it) "set_iterator" := ⟨_, hit, rfl⟩
  unfold pyNext
  refine wpAny_bind (wpAny_attempt (wpAny_callSpecial?_slot (name := Str.ofString "__next__") T sl_sit_next (wpAny_call_entry sl_sit_next T en_sit_next ?_ (ar_sit_next _))))
  show wpAny _ _ (fieldsOf (.ref it) >>= _) _ _ s
  refine wpAny_bind (wpAny_fieldsOf hit rfl ?_)
  dsimp only
  refine wpAny_bind (wpAny_setEntries_of ho hd hS.fits ?_)
  rw [if_neg (by rw [hn]; simp)]
  refine wpAny_bind (wpAny_seqItems hop hdp ?_)
  simp only [Int.toNat_natCast, hk]
  refine wpAny_bind (wpAny_setField_rec hit (by simp) fun g e1 e2 => wpAny_bind (wpAny_setField_rec e1 (by simp) fun g2 e3 e4 => raise_stop (s := { s with heap := g2 }) (show A.in1.handled = none from hh) fun g3 e kp hx => ?_))
  obtain ⟨ox, hox, hcx⟩ := hx
  refine wpAny_bind (wpAny_isInstance (T := "StopIteration") (b := true) ⟨ox, hox, hcx⟩ isSubtype_stop (wpAny_pure (q g3 fun b o hb e => kp b o ?_)))
  exact e4.extBut b o hb (e2.extBut b o hb e)
/-- by the table: what comes next is told by setNext -/
theorem sit_slot {it S : Addr} {i n ep sl sl' : Nat} {es : Array (Int × Value)} {t : SetTable} {x : Value} {Q : Option Value → Shared → Prop} (hit : s.heap.get? it = some (sitOb (rawInt sl) i S n ep)) (hS : SetAt w s.heap S es ep t) (hn : es.size = n)
    (hx : ∀ (Q' : Option (Value × Nat) → Shared → Prop) (E' : Value → Shared → Prop), Q' (some (x, sl')) s → wpAny (model prog w) A.in1 (setNext S sl i ep) Q' E' s)
    (q : ∀ g, g.get? it = some (sitOb (rawInt sl') ((i : Int) + 1) S n ep) → Heap.SameBut it s.heap g → Q (some x) { s with heap := g }) : wpAny (model prog w) A (pyNext (.ref it)) Q E s := by
  obtain ⟨o, ho, hex, hd⟩ := hS.ex
  have T : Shared.TypeIs s (.ref it) "set_iterator" := ⟨_, hit, rfl⟩
  unfold pyNext
  refine wpAny_bind (wpAny_attempt (wpAny_callSpecial?_slot (name := Str.ofString "__next__") T sl_sit_next (wpAny_call_entry sl_sit_next T en_sit_next ?_ (ar_sit_next _))))
  show wpAny _ _ (fieldsOf (.ref it) >>= _) _ _ s
  refine wpAny_bind (wpAny_fieldsOf hit rfl ?_)
  dsimp only
  refine wpAny_bind (wpAny_setEntries_of ho hd hS.fits ?_)
  rw [if_neg (by rw [hn]; simp)]
  show wpAny _ _ (setNext S (sl : Int).toNat (i : Int).toNat (ep : Int).toNat >>= _) _ _ s
  simp only [Int.toNat_natCast]
  refine wpAny_bind (hx _ _ ?_)
  dsimp only
  refine wpAny_bind (wpAny_setField_rec hit (by simp) fun g e1 e2 => wpAny_bind (wpAny_setField_rec e1 (by simp) fun g2 e3 e4 => wpAny_pure ⟨_, rfl, wpAny_pure (q g2 (by simpa using e3) (e2.trans e4))⟩))
theorem sit_slot_end {it S : Addr} {i n ep sl : Nat} {es : Array (Int × Value)} {t : SetTable} {Q : Option Value → Shared → Prop} (hh : A.handled = none) (hit : s.heap.get? it = some (sitOb (rawInt sl) i S n ep)) (hS : SetAt w s.heap S es ep t) (hn : es.size = n)
    (hx : ∀ (Q' : Option (Value × Nat) → Shared → Prop) (E' : Value → Shared → Prop), Q' none s → wpAny (model prog w) A.in1 (setNext S sl i ep) Q' E' s)
    (q : ∀ g, (∀ b o, b ≠ it → s.heap.get? b = some o → g.get? b = some o) → Q none { s with heap := g }) : wpAny (model prog w) A (pyNext (.ref it)) Q E s := by
  obtain ⟨o, ho, hex, hd⟩ := hS.ex
  have T : Shared.TypeIs s (.ref it) "set_iterator" := ⟨_, hit, rfl⟩
  unfold pyNext
  refine wpAny_bind (wpAny_attempt (wpAny_callSpecial?_slot (name := Str.ofString "__next__") T sl_sit_next (wpAny_call_entry sl_sit_next T en_sit_next ?_ (ar_sit_next _))))
  show wpAny _ _ (fieldsOf (.ref it) >>= _) _ _ s
  refine wpAny_bind (wpAny_fieldsOf hit rfl ?_)
  dsimp only
  refine wpAny_bind (wpAny_setEntries_of ho hd hS.fits ?_)
  rw [if_neg (by rw [hn]; simp)]
  show wpAny _ _ (setNext S (sl : Int).toNat (i : Int).toNat (ep : Int).toNat >>= _) _ _ s
  simp only [Int.toNat_natCast]
  refine wpAny_bind (hx _ _ ?_)
  dsimp only
  refine wpAny_bind (wpAny_setField_rec hit (by simp) fun g e1 e2 => raise_stop (s := { s with heap := g }) (show A.in1.handled = none from hh) fun g3 e kp hx => ?_)
  obtain ⟨ox, hox, hcx⟩ := hx
  exact wpAny_bind (wpAny_isInstance (T := "StopIteration") (b := true) ⟨ox, hox, hcx⟩ isSubtype_stop (wpAny_pure (q g3 fun b o hb e => kp b o (e2.extBut b o hb e))))
end
end L2

namespace L2
open PySem PySem.Spec PyProof.Rows
theorem sl_sit_iter : Slot "set_iterator" "__iter__" "set_iterator.__iter__" := .of (owner := "set_iterator") (n := "__iter__") (by rw [typeLookup_type, builtinLookup_eq_fast]; kernel_rfl) (by decide +kernel) (by decide +kernel) (by decide +kernel) (by first | exact .inl (by decide +kernel) | exact .inr (by decide +kernel)) (by rw [isSubtype_type]; kernel_rfl)
theorem ar_sit_iter (a : Value) : argsOk "set_iterator.__iter__" ⟨[a], []⟩ := by unfold argsOk; kernel_rfl
theorem en_sit_iter : entryFor table "set_iterator.__iter__" = some Builtin.«dict_keyiterator.__iter__» := entryFor_alias (id' := "dict_keyiterator.__iter__") (by kernel_rfl) (by first | rfl | decide +kernel | (unfold String.splitOn; simp +decide [String.splitOnAux])) (by decide +kernel) (by kernel_rfl)
section
variable {prog : Program} {w : World} {A : Around} {E : Value → Shared → Prop} {s : Shared}
theorem sit_self {it S : Addr} {f : Value} {i : Int} {n ep : Nat} {Q : Value → Shared → Prop} (hit : s.heap.get? it = some (sitOb f i S n ep)) (q : Q (.ref it) s) : wpAny (model prog w) A (pyIter (.ref it)) Q E s := by
  have T : Shared.TypeIs s (.ref it) "set_iterator" := ⟨_, hit, rfl⟩
  exact wpAny_pyIter_slot T sl_sit_iter (wpAny_call_entry sl_sit_iter T en_sit_iter (wpAny_pure ⟨_, rfl, "set_iterator", _, T, sl_sit_next.lookup, q⟩) (ar_sit_iter _))
/-- the order in which the set is walked: some order of its elements -/
theorem walk_place (hh : A.handled = none) {it S p : Addr} {n ep : Nat} {es : Array (Int × Value)} {t : SetTable} {pl : List Nat} (hpl : pl.Perm (List.range n)) (hn : es.size = n) (h1 : it ≠ S) (h2 : it ≠ p) :
    Walks prog w A it [it, p, S] [it] n (fun i v => ∃ k x, pl[i]? = some k ∧ es[k]? = some x ∧ v = x.2) (fun i h => i ≤ n ∧ h.get? it = some (sitOb (.ref p) i S n ep) ∧ (∃ o, h.get? p = some o ∧ o.cls = .type "tuple" ∧ ∃ e, o.data = .seq (pl.map fun k : Nat => rawInt k).toArray e) ∧ SetAt w h S es ep t) where
  sub := fun b hb => by simp at hb; simp [hb]
  frame := fun i h h' st k => ⟨st.1, k it (by simp) _ st.2.1, (let ⟨o, ho, r⟩ := st.2.2.1; ⟨o, k p (by simp) o ho, r⟩), st.2.2.2.keep fun o ho => k S (by simp) o ho⟩
  item := fun i s Q E hi st q => by
    obtain ⟨_, hit, ⟨op, hop, hcp, e, hdp⟩, hS⟩ := st
    have hl : pl.length = n := by have := hpl.length_eq; simpa using this
    have hk : pl[i]? = some pl[i] := List.getElem?_eq_getElem (by omega)
    have hkn : pl[i] < es.size := by rw [hn]; exact List.mem_range.mp (hpl.mem_iff.mp (List.getElem_mem (by omega)))
    refine sit_place hit hS hn ⟨op, hop, hcp, hdp⟩ (k := pl[i]) (x := es[pl[i]]) (by simp [hk]) (by simp [hkn]) fun g a b => q _ g s.toks ⟨pl[i], es[pl[i]], hk, by simp [hkn], rfl⟩ ⟨hi, ?_, ⟨op, b.extBut p op (Ne.symm h2) hop, hcp, e, hdp⟩, hS.keep fun o ho => b.extBut S o (Ne.symm h1) ho⟩ fun c o hc ho => b.extBut c o (fun z => hc (by simp [z])) ho
    rw [a]; rfl
  done := fun s Q E st q => by
    obtain ⟨_, hit, ⟨op, hop, hcp, e, hdp⟩, hS⟩ := st
    have hl : pl.length = n := by have := hpl.length_eq; simpa using this
    exact sit_place_end hh hit hS hn ⟨op, hop, hcp, hdp⟩ (by simp [hl]) fun g kp => q g s.toks fun c o hc ho => kp c o (fun z => hc (by simp [z])) ho
  self := fun i s Q E st q => sit_self st.2.1 q
theorem walk_slot (hh : A.handled = none) {it S : Addr} {n ep : Nat} {es : Array (Int × Value)} {t : SetTable} {vs : List Value} {sl : Nat → Nat} (hv : vs.length = n) (hn : es.size = n) (h1 : it ≠ S)
    (hx : ∀ (s : Shared) (i : Nat), SetAt w s.heap S es ep t → i ≤ n → ∀ (A : Around) (Q' : Option (Value × Nat) → Shared → Prop) (E' : Value → Shared → Prop), Q' ((vs[i]?).map fun v => (v, sl (i + 1))) s → wpAny (model prog w) A (setNext S (sl i) i ep) Q' E' s) :
    Walks prog w A it [it, S] [it] n (fun i v => vs[i]? = some v) (fun i h => i ≤ n ∧ h.get? it = some (sitOb (rawInt (sl i)) i S n ep) ∧ SetAt w h S es ep t) where
  sub := fun b hb => by simp at hb; simp [hb]
  frame := fun i h h' st k => ⟨st.1, k it (by simp) _ st.2.1, st.2.2.keep fun o ho => k S (by simp) o ho⟩
  item := fun i s Q E hi st q => by
    obtain ⟨_, hit, hS⟩ := st
    have hk : vs[i]? = some vs[i] := List.getElem?_eq_getElem (by omega)
    refine sit_slot (x := vs[i]) (sl' := sl (i + 1)) hit hS hn (fun Q' E' y => hx s i hS (Nat.le_of_lt hi) _ Q' E' (by rw [hk]; exact y)) fun g a b => q _ g s.toks hk ⟨hi, ?_, hS.keep fun o ho => b.extBut S o (Ne.symm h1) ho⟩ fun c o hc ho => b.extBut c o (fun z => hc (by simp [z])) ho
    rw [a]; rfl
  done := fun s Q E st q => by
    obtain ⟨_, hit, hS⟩ := st
    have hk : vs[n]? = none := List.getElem?_eq_none (by omega)
    exact sit_slot_end hh hit hS hn (fun Q' E' y => hx s n hS (Nat.le_refl _) _ Q' E' (by rw [hk]; exact y)) fun g kp => q g s.toks fun c o hc ho => kp c o (fun z => hc (by simp [z])) ho
  self := fun i s Q E st q => sit_self st.2.1 q
end
end L2
set_option Elab.async false
set_option linter.all false
set_option maxRecDepth 100000
set_option maxHeartbeats 4000000
namespace L2
open PySem PySem.Spec PyProof.Rows
section
variable {prog : Program} {w : World} {A : Around} {E : Value → Shared → Prop} {s : Shared}
theorem byText_wp {Q : Bool → Shared → Prop} (q : Q (byTx w) s) : wpAny (model prog w) A setsByText Q E s := by
  unfold setsByText
  exact wpAny_bind (wpAny_askSetting (wpAny_pure q))
theorem next_text {S : Addr} {es : Array (Int × Value)} {ep : Nat} {t : SetTable} {i : Nat} {Q : Option (Value × Nat) → Shared → Prop} (hb : byTx w = true) (hS : SetAt w s.heap S es ep t)
    (q : Q ((((pickOrder (w.params.setOrder S ep) es).toList.map (·.2))[i]?).map fun v => (v, 0)) s) : wpAny (model prog w) A (setNext S 0 i ep) Q E s := by
  obtain ⟨o, ho, hex, hd⟩ := hS.ex
  unfold setNext
  refine wpAny_bind (wpAny_setState_of ho hd hS.fits ?_)
  dsimp only
  refine wpAny_bind (byText_wp ?_)
  rw [hb, if_pos rfl, if_neg (by simp)]
  unfold setWalk
  refine wpAny_bind (wpAny_bind (wpAny_setState_of ho hd hS.fits ?_))
  dsimp only
  refine wpAny_bind (byText_wp ?_)
  rw [hb, if_pos rfl]
  refine wpAny_bind (wpAny_askSetting (wpAny_pure (wpAny_pure ?_)))
  have e : ((pickOrder (w.params.setOrder S ep) es)[i]?).map (fun e => (e.2, 0)) = (((pickOrder (w.params.setOrder S ep) es).toList.map (·.2))[i]?).map fun v => (v, 0) := by
    rw [List.getElem?_map, Array.getElem?_toList, Option.map_map]; rfl
  show Q (((pickOrder (w.params.setOrder S ep) es)[i]?).map fun e => (e.2, 0)) s
  rw [e]; exact q
theorem below_one (p : Nat) : SetTable.below #[p] 0 = 0 ∧ SetTable.below #[p] (p + 1) = 1 := by
  unfold SetTable.below
  constructor
  · simp [SetTable.below.go]
  · simp [SetTable.below.go]
theorem next_one {S : Addr} {es : Array (Int × Value)} {ep : Nat} {t : SetTable} {i : Nat} {Q : Option (Value × Nat) → Shared → Prop} (hb : byTx w = false) (hS : SetAt w s.heap S es ep t) (hled : t.led = true) (h1 : es.size ≤ 1) (hi : i ≤ es.size)
    (q : Q (((es.toList.map (·.2))[i]?).map fun v => (v, if i + 1 = 0 then 0 else t.place.getD 0 0 + 1)) s) : wpAny (model prog w) A (setNext S (if i = 0 then 0 else t.place.getD 0 0 + 1) i ep) Q E s := by
  obtain ⟨o, ho, hex, hd⟩ := hS.ex
  have hf := hS.fits
  have hps : t.place.size = es.size := by
    unfold SetTable.fits at hf
    simp only [Bool.and_eq_true, beq_iff_eq] at hf
    exact hf.1
  unfold setNext
  refine wpAny_bind (wpAny_setState_of ho hd hS.fits ?_)
  dsimp only
  refine wpAny_bind (byText_wp ?_)
  rw [hb, if_neg Bool.false_ne_true]
  show wpAny _ _ (if (!t.plain && decide (es.size > 1)) = true then _ else _) _ _ _
  rw [if_neg (by simp; omega)]
  show wpAny _ _ ((if (!t.led && !es.isEmpty) = true then _ else pure ()) >>= _) _ _ _
  rw [if_neg (by simp [hled])]
  refine wpAny_bind (wpAny_pure (wpAny_pure ?_))
  by_cases hz : es.size = 0
  · have e1 : es = #[] := Array.eq_empty_of_size_eq_zero hz
    subst e1
    simpa using q
  · have hs1 : es.size = 1 := by omega
    obtain ⟨x, rfl⟩ : ∃ x, es = #[x] := by
      obtain ⟨l⟩ := es
      match l, hs1 with
      | [x], _ => exact ⟨x, rfl⟩
    obtain ⟨p, hp⟩ : ∃ p, t.place = #[p] := by
      generalize t.place = pl at hps
      obtain ⟨l⟩ := pl
      match l, hps with
      | [x], _ => exact ⟨x, rfl⟩
    rw [hp] at q ⊢
    rcases (show i = 0 ∨ i = 1 by simp at hi; omega) with rfl | rfl
    · simp [below_one] at q ⊢; exact q
    · simp [below_one] at q ⊢; exact q
end
end L2

namespace L2
open PySem PySem.Spec PyProof.Rows
theorem perm_map_get {α β : Type} [Inhabited β] (f : Nat → β) (xs : List α) (g : α → β) (n : Nat) (hn : xs.length = n) (hf : ∀ i x, xs[i]? = some x → f i = g x) : (List.range n).map f = xs.map g := by
  apply List.ext_getElem?
  intro i
  rw [List.getElem?_map, List.getElem?_map]
  by_cases h : i < n
  · rw [List.getElem?_range h, List.getElem?_eq_getElem (by omega)]
    exact congrArg some (hf i _ (List.getElem?_eq_getElem (by omega)))
  · rw [List.getElem?_eq_none (by simp; omega), List.getElem?_eq_none (by omega)]; rfl
section
variable {prog : Program} {w : World} {A : Around} {E : Value → Shared → Prop} {s : Shared}
/-- iter(S): some walker that gives each element once -/
theorem iter_set {S : Addr} {es : Array (Int × Value)} {ep : Nat} {t : SetTable} {Q : Value → Shared → Prop} (hS : SetAt w s.heap S es ep t) (hto : TabOk w es.size t) (hsz : es.size ≤ sizeLine)
    (q : ∀ (g : Heap) (d : Drawn) (it : Addr) (fp : List Addr) (P : Nat → Value → Prop) (St : Nat → Heap → Prop), (∀ A : Around, A.handled = none → Walks prog w A it fp [it] es.size P St) → St 0 g → s.heap.objs.size ≤ it → (∀ b ∈ fp, b = S ∨ s.heap.objs.size ≤ b) → (∀ b ∈ fp, b < g.objs.size) → (∀ b o, s.heap.get? b = some o → g.get? b = some o) →
      (∀ acc, ItemsOf P acc es.size → acc.toList.Perm (es.toList.map (·.2))) → Q (.ref it) { s with heap := g, drawn := d }) : wpAny (model prog w) A (pyIter (.ref S)) Q E s := by
  obtain ⟨o, ho, hex, hd⟩ := hS.ex
  have T : Shared.TypeIs s (.ref S) "set" := ⟨o, ho, hex.1⟩
  have hSlt := Heap.lt_size ho
  refine wpAny_pyIter_slot T PySem.F.slot_set_iter (wpAny_call_entry PySem.F.slot_set_iter T en_set_iter ?_ (PySem.F.args_set_iter_1 _))
  show wpAny _ _ (Builtin.Frozenset.sizeOf S >>= _) _ _ s
  unfold Builtin.Frozenset.sizeOf
  refine wpAny_bind (wpAny_bind (wpAny_setEntries_of ho hd hS.fits (wpAny_pure ?_)))
  unfold setDrawn
  refine wpAny_bind (wpAny_bind (wpAny_setState_of ho hd hS.fits ?_))
  dsimp only
  refine wpAny_bind (byText_wp (wpAny_pure ?_))
  by_cases hdr : (!byTx w && (!t.plain && decide (es.size > 1))) = true
  · show wpAny _ _ (if (!byTx w && (!t.plain && decide (es.size > 1))) = true then _ else _) _ _ _
    rw [if_pos hdr]
    refine wpAny_bind (draw_any es.size (List.range es.size) _ _ (by simp) fun pl hp d => ?_)
    have hl : pl.length = es.size := by have := hp.length_eq; simpa using this
    refine wpAny_bind (wpAny_newTuple ?_ (by rw [List.length_map, hl]; exact hsz))
    have hS1 : SetAt w (s.heap.push { cls := .type "tuple", data := .seq (pl.map fun i : Nat => rawInt i).toArray }) S es ep t := hS.keep fun o e => Heap.get?_push_of_some _ e
    obtain ⟨o1, ho1, _, hd1⟩ := hS1.ex
    refine wpAny_bind (wpAny_setEpoch_of (s := { s with heap := s.heap.push { cls := .type "tuple", data := .seq (pl.map fun i : Nat => rawInt i).toArray }, drawn := d }) ho1 hd1 hS.fits ?_)
    refine wpAny_bind (wpAny_newObj_type (wpAny_pure ⟨_, rfl, "set_iterator", _, ⟨_, Heap.get?_push_size _ rfl, rfl⟩, sl_sit_next.lookup, ?_⟩))
    have z : (s.heap.push { cls := .type "tuple", data := .seq (pl.map fun i : Nat => rawInt i).toArray }).objs.size = s.heap.objs.size + 1 := Heap.size_push ..
    refine q _ d _ [_, s.heap.objs.size, S] _ _ (fun A hA => walk_place (p := s.heap.objs.size) (t := t) (ep := ep) hA hp rfl ?_ ?_) ⟨Nat.zero_le _, Heap.get?_push_size _ rfl, ⟨_, Heap.get?_push_of_some _ (Heap.get?_push_size _ rfl), rfl, 0, rfl⟩, hS1.keep fun o e => Heap.get?_push_of_some _ e⟩ ?_ (fun b hb => ?_) (fun b hb => ?_) (fun b o e => Heap.get?_push_of_some _ (Heap.get?_push_of_some _ e)) fun acc hacc => ?_
    · rw [z]; exact Nat.ne_of_gt (Nat.lt_succ_of_lt hSlt)
    · rw [z]; exact Nat.succ_ne_self _
    · rw [z]; exact Nat.le_succ _
    · simp only [List.mem_cons, List.not_mem_nil, or_false] at hb
      rcases hb with rfl | rfl | rfl
      · rw [z]; exact .inr (Nat.le_succ _)
      · exact .inr (Nat.le_refl _)
      · exact .inl rfl
    · simp only [List.mem_cons, List.not_mem_nil, or_false] at hb
      have z2 : ∀ o2, ((s.heap.push { cls := .type "tuple", data := .seq (pl.map fun i : Nat => rawInt i).toArray }).push o2).objs.size = s.heap.objs.size + 2 := fun o2 => by rw [Heap.size_push, z]
      rw [z2]
      rcases hb with rfl | rfl | rfl
      · rw [z]; exact Nat.lt_succ_self _
      · exact Nat.lt_succ_of_lt (Nat.lt_succ_self _)
      · exact Nat.lt_succ_of_lt (Nat.lt_succ_of_lt hSlt)
    · have e : acc.toList = pl.map fun k => (es.getD k (0, .none)).2 := by
        apply List.ext_getElem?
        intro i
        rw [List.getElem?_map]
        by_cases hi : i < es.size
        · have hia : i < acc.size := by rw [hacc.1]; exact hi
          have ha : acc[i]? = some (acc[i]'hia) := Array.getElem?_eq_getElem hia
          obtain ⟨k, x, h1, h2, h3⟩ := hacc.2 i _ ha
          rw [Array.getElem?_toList, ha, h1]
          have : es.getD k (0, .none) = x := by rw [Array.getD_eq_getD_getElem?, h2]; rfl
          rw [h3]
          show some x.2 = some (es.getD k (0, .none)).2
          rw [this]
        · rw [List.getElem?_eq_none (by rw [Array.length_toList, hacc.1]; omega), List.getElem?_eq_none (by omega)]; rfl
      rw [e]
      refine (hp.map _).trans (List.Perm.of_eq ?_)
      exact perm_map_get _ es.toList (·.2) es.size (by simp) fun i x hx => by
        have hx' : es[i]? = some x := by rw [← Array.getElem?_toList]; exact hx
        rw [Array.getD_eq_getD_getElem?, hx']; rfl
  · show wpAny _ _ (if (!byTx w && (!t.plain && decide (es.size > 1))) = true then _ else _) _ _ _
    rw [if_neg hdr]
    refine wpAny_bind (wpAny_pure (wpAny_bind (wpAny_setEpoch_of ho hd hS.fits ?_)))
    refine wpAny_bind (wpAny_newObj_type (wpAny_pure ⟨_, rfl, "set_iterator", _, ⟨_, Heap.get?_push_size _ rfl, rfl⟩, sl_sit_next.lookup, ?_⟩))
    have fin : ∀ (vs : List Value) (sl : Nat → Nat), sl 0 = 0 → vs.Perm (es.toList.map (·.2)) → (∀ (s : Shared) (i : Nat), SetAt w s.heap S es ep t → i ≤ es.size → ∀ (A : Around) (Q' : Option (Value × Nat) → Shared → Prop) (E' : Value → Shared → Prop), Q' ((vs[i]?).map fun v => (v, sl (i + 1))) s → wpAny (model prog w) A (setNext S (sl i) i ep) Q' E' s) →
        Q (.ref s.heap.objs.size) { s with heap := s.heap.push (sitOb (rawInt 0) 0 S es.size ep) } := fun vs sl h0 hp hx => by
      have hl : vs.length = es.size := by have := hp.length_eq; simpa using this
      refine q _ s.drawn s.heap.objs.size [s.heap.objs.size, S] _ _ (fun A hA => walk_slot (t := t) (ep := ep) (vs := vs) (sl := sl) hA hl rfl (Nat.ne_of_gt hSlt) hx) ⟨Nat.zero_le _, ?_, hS.keep fun o e => Heap.get?_push_of_some _ e⟩ (Nat.le_refl _) (fun b hb => ?_) (fun b hb => ?_) (fun b o e => Heap.get?_push_of_some _ e) fun acc hacc => ?_
      · rw [h0]; exact Heap.get?_push_size _ rfl
      · simp only [List.mem_cons, List.not_mem_nil, or_false] at hb
        rcases hb with rfl | rfl
        · exact .inr (Nat.le_refl _)
        · exact .inl rfl
      · simp only [List.mem_cons, List.not_mem_nil, or_false] at hb
        rw [Heap.size_push]
        rcases hb with rfl | rfl
        · exact Nat.lt_succ_self _
        · exact Nat.lt_succ_of_lt hSlt
      · have e : acc.toList = vs := by
          apply List.ext_getElem?
          intro i
          by_cases hi : i < es.size
          · have hia : i < acc.size := by rw [hacc.1]; exact hi
            have ha : acc[i]? = some (acc[i]'hia) := Array.getElem?_eq_getElem hia
            rw [Array.getElem?_toList, ha, hacc.2 i _ ha]
          · rw [List.getElem?_eq_none (by rw [Array.length_toList, hacc.1]; omega), List.getElem?_eq_none (by omega)]
        rw [e]; exact hp
    cases hb : byTx w with
    | true => exact fin ((pickOrder (w.params.setOrder S ep) es).toList.map (·.2)) (fun _ => 0) rfl ((pick_perm _ _).map _) fun s i hS' hi A Q' E' y => next_text hb hS' y
    | false =>
      have h1 : es.size ≤ 1 := by
        rcases hto.2 with z | z
        · omega
        · rw [hb, z] at hdr; simp at hdr; omega
      have hled : t.led = true := hto.1.resolve_left (by rw [hb]; exact Bool.false_ne_true)
      exact fin (es.toList.map (·.2)) (fun i => if i = 0 then 0 else t.place.getD 0 0 + 1) rfl (List.Perm.refl _) fun s i hS' hi A Q' E' y => next_one hb hS' hled h1 hi y
end
end L2

namespace L2
open PySem PySem.Spec PyProof.Rows
section
variable {prog : Program} {w : World} {A : Around} {E : Value → Shared → Prop} {s : Shared}
theorem hint_set {S : Addr} {Q : Bool → Shared → Prop} (T : s.TypeIs (.ref S) "set") (q : Q false s) : wpAny (model prog w) A (Builtin.List.listLengthHint (.ref S)) Q E s := by
  unfold Builtin.List.listLengthHint
  refine wpAny_bind (wpAny_specialOf T PySem.F.slot_set_len.lookup ?_)
  generalize hid : ("set.__len__" : String) = id0
  wp_delta
  rw [show splitId id0 = some ("set", "__len__") from by subst hid; decide +kernel]
  subst hid
  refine wpAny_bind (wpAny_isInstance (T := "set") (b := true) T (by rw [isSubtype_type]; kernel_rfl) ?_)
  refine wpAny_ite_split (fun y => absurd y (by decide)) (fun _ => wpAny_ite_split (fun _ => ?_) (fun y => absurd (by decide +kernel) y))
  exact wpAny_bind (wpAny_typeOf T (wpAny_pure q))
/-- all elements of the set, in some order -/
theorem collect_set {S : Addr} {es : Array (Int × Value)} {ep : Nat} {t : SetTable} {Q : List Value → Shared → Prop} (hS : SetAt w s.heap S es ep t) (hto : TabOk w es.size t) (hsz : es.size ≤ sizeLine) (hh : A.handled = none)
    (q : ∀ (g : Heap) (d : Drawn) (tk : Nat) (vs : List Value), (∀ b o, s.heap.get? b = some o → g.get? b = some o) → vs.Perm (es.toList.map (·.2)) → Q vs { s with heap := g, drawn := d, toks := tk }) : wpAny (model prog w) A (collect (.ref S)) Q E s := by
  obtain ⟨o, ho, hex, hd⟩ := hS.ex
  have hSlt := Heap.lt_size ho
  unfold collect
  refine wpAny_bind (wpAny_runValue (codeAny_builtin entry_proto_collect' ?_))
  rw [Around.under_plainId PySem.F.plain_proto_collect _]
  show wpAny _ A.in1 (newList [] >>= fun l => again (.builtin "list.__iadd__" ⟨[l, .ref S], []⟩)) _ _ s
  refine wpAny_bind (wpAny_newObj_type (wpAny_pure ⟨plainId_quiet PySem.F.plain_list_iadd _, codeAny_builtin entry_list_iadd' ?_⟩))
  rw [Around.under_plainId PySem.F.plain_list_iadd _]
  generalize hL : s.heap.objs.size = L
  have gL : (s.heap.push { cls := .type "list", data := .seq ([] : List Value).toArray }).get? L = some { cls := .type "list", data := .seq #[] } := by rw [← hL]; exact Heap.get?_push_size _ rfl
  have hS1 : SetAt w (s.heap.push { cls := .type "list", data := .seq ([] : List Value).toArray }) S es ep t := hS.keep fun o e => Heap.get?_push_of_some _ e
  have z1 : (s.heap.push { cls := .type "list", data := .seq ([] : List Value).toArray }).objs.size = L + 1 := by rw [Heap.size_push, hL]
  have kp1 : ∀ b o, s.heap.get? b = some o → (s.heap.push { cls := .type "list", data := .seq ([] : List Value).toArray }).get? b = some o := fun b o e => Heap.get?_push_of_some _ e
  have bL : ∀ b o, s.heap.get? b = some o → b ≠ L := fun b o e => by rw [← hL]; exact Nat.ne_of_lt (Heap.lt_size e)
  generalize s.heap.push { cls := .type "list", data := .seq ([] : List Value).toArray } = h1 at gL hS1 z1 kp1 ⊢
  have hne : L ≠ S := by rw [← hL]; exact Nat.ne_of_gt hSlt
  obtain ⟨o1, ho1, hex1, hd1⟩ := hS1.ex
  have T : Shared.TypeIs { s with heap := h1 } (.ref S) "set" := ⟨o1, ho1, hex1.1⟩
  show wpAny _ A.in1 (Builtin.List.listExtendWith (.ref L) (.ref S) (.ref L)) _ _ _
  unfold Builtin.List.listExtendWith
  refine wpAny_bind (wpAny_typeOf (T := "set") T ?_)
  have e1 : Builtin.List.listSameRef (.ref L) (.ref S) = false := by simp [Builtin.List.listSameRef, hne]
  have e2 : (Value.type "set" == Value.type "list") = false := by decide
  have e3 : (Value.type "set" == Value.type "tuple") = false := by decide
  simp only [e1, e2, e3, Bool.or_false, Bool.false_eq_true, if_false]
  refine wpAny_bind (iter_set (s := { s with heap := h1 }) hS1 hto hsz fun g d it fp P St W st hit hfp hfl kp2 hperm => ?_)
  have gL2 := kp2 _ _ gL
  have hLf : L ∉ fp := fun hm => by
    rcases hfp L hm with y | y
    · exact hne y
    · rw [show Shared.heap { s with heap := h1 } = h1 from rfl, z1] at y; exact absurd y (Nat.not_le.mpr (Nat.lt_succ_self _))
  obtain ⟨o2, ho2, hex2, hd2⟩ := (hS1.keep fun o e => kp2 S o e).ex
  refine wpAny_bind (wpAny_holding (hint_set (s := { s with heap := g, drawn := d }) ⟨o2, ho2, hex2.1⟩ ?_))
  have itL : it ≠ L := fun y => by
    have := hit
    rw [show Shared.heap { s with heap := h1 } = h1 from rfl, z1, y] at this
    exact absurd this (Nat.not_le.mpr (Nat.lt_succ_self _))
  have old : ∀ b o, s.heap.get? b = some o → b ≠ it := fun b o e y => by
    have h2 := Heap.lt_size (kp1 b o e)
    have h3 := hit
    rw [show Shared.heap { s with heap := h1 } = h1 from rfl] at h3
    rw [y] at h2
    exact absurd h2 (Nat.not_lt.mpr h3)
  have key : ∀ (g' : Heap) (c tk : Nat), St 0 g' → (∀ b o, b ≠ L → g.get? b = some o → g'.get? b = some o) → g'.get? L = some { cls := .type "list", data := .seq #[] c } →
      codeAny (model prog w) A (.builtin "list.extend.loop" ⟨[.ref L, .ref it, .ref L], []⟩) (wants (fun r s' => wpAny (model prog w) A (match r with | .ref a => (do match (← load a).data with | .seq xs _ => pure xs.toList | _ => unsupported "internal:collect") | _ => unsupported "internal:collect") Q E s') E) { s with heap := g', drawn := d, toks := tk } := by
    intro g' c tk st' kp3 gL3
    refine codeAny_extend_loopS (W A.in1 (by simpa using hh)).toS hsz L hLf (.ref L) es.size 0 _ #[] c rfl (Nat.zero_le _) st' gL3 (ItemsOf.nil _) fun s' acc c' hm gL4 hacc => ?_
    have ee : s' = { s with heap := s'.heap, drawn := d, toks := s'.toks } := by
      have h1 := hm.gens
      have h2 := hm.drawn
      have h3 := hm.os
      cases s'
      simp only at h1 h2 h3
      subst h1; subst h2; subst h3; rfl
    refine wpAny_bind (wpAny_load gL4 (wpAny_pure ?_))
    rw [ee]
    refine q s'.heap d s'.toks acc.toList (fun b o e => hm.heap b o (fun y => ?_) (kp3 b o (bL b o e) (kp2 b o (kp1 b o e)))) (hperm acc hacc)
    rcases List.mem_cons.mp y with y | y
    · exact bL b o e y
    · exact old b o e (List.mem_singleton.mp y)
  refine wpAny_ite_split (fun _ => ?_) (fun _ => wpAny_pure ⟨plainId_quiet PySem.F.plain_extend_loop _, key g 0 _ st (fun _ _ _ e => e) gL2⟩)
  refine wpAny_bind (wpAny_rule (wpAny_bind ?_))
  show wpAny _ _ (updateSeq L (·.push .none) >>= fun _ => updateSeq L (·.pop)) _ _ _
  refine wpAny_bind (wpAny_updateSeq gL2 rfl ?_)
  have g5 := Heap.get?_update_self (Obj.mapSeq (·.push Value.none)) gL2 rfl
  refine wpAny_updateSeq (hz := by seq_fits) g5 rfl ?_
  have g6 := Heap.get?_update_self (Obj.mapSeq (·.pop)) g5 rfl
  refine wpAny_pure ⟨plainId_quiet PySem.F.plain_extend_loop _, key _ _ _ ((W A hh).frame 0 _ _ st fun b hb o e => ?_) (fun b o hb e => ?_) g6⟩
  · have hbL : b ≠ L := fun y => hLf (y ▸ hb)
    exact (Heap.get?_update_other _ _ (Ne.symm hbL)).trans ((Heap.get?_update_other _ _ (Ne.symm hbL)).trans e)
  · exact (Heap.get?_update_other _ _ (Ne.symm hb)).trans ((Heap.get?_update_other _ _ (Ne.symm hb)).trans e)
end
end L2
set_option Elab.async false
set_option linter.all false
set_option maxRecDepth 100000
set_option maxHeartbeats 4000000
namespace L2
open PySem PySem.Spec PyProof.Rows
section
variable {prog : Program} {w : World} {A : Around} {E : Value → Shared → Prop} {s : Shared}
/-- sorted(S), S a set of texts: a new list, rising -/
theorem sorted_set {S : Addr} {ks : List Str} {Q : Value → Shared → Prop} (z : SetT prog w s.heap S ks) (few : ks.length < 64) (hh : A.handled = none)
    (q : ∀ (g0 g1 : Heap) (d : Drawn) (tk : Nat) (out : Array Value) (ss : List Str) (e : Nat), (∀ b o, s.heap.get? b = some o → g0.get? b = some o) → (∀ b o, g0.get? b = some o → g1.get? b = some o) → g1.get? g0.objs.size = some (seqObj "list" out e) →
      StrsAre out.toList ss → ss.Perm ks → sortedS ss = true → Q (.ref g0.objs.size) { s with heap := g1, drawn := d, toks := tk }) : wpAny (model prog w) A (call (.builtin "sorted") [.ref S]) Q E s := by
  obtain ⟨o, es, ep, t, ho, hex, hd, hel, hp, hb, hf, hto⟩ := z
  have hS : SetAt w s.heap S es ep t := ⟨⟨o, ho, hex, hd⟩, hf⟩
  have hlen : es.size = ks.length := by have := hp.length_eq; simpa using this
  apply Calls.call_function_entry kind_sorted plain_sorted entry_sorted (args_sorted1 _)
  show wpAny _ _ (checkCount "sorted" 1 1 _ >>= _) _ _ _
  refine wpAny_bind (wpAny_pure (wpAny_bind (collect_set hS hto (by rw [sizeLine_eq]; omega) (by simpa using hh) fun g d tk vs kp pv => ?_)))
  have hv : ∀ v ∈ vs, ∃ x t, v = Value.str x t := fun v hv => by
    obtain ⟨e, he, rfl⟩ := List.mem_map.mp (pv.mem_iff.mp hv)
    obtain ⟨t, ht⟩ := elem_str hel e he
    exact ⟨_, t, ht⟩
  have hst := strsAre_map vs hv
  have hks : (vs.map strOf).Perm ks := by
    refine (pv.map strOf).trans ?_
    rw [List.map_map]; exact hp
  have hvl : vs.length < 64 := by have := hks.length_eq; rw [List.length_map] at this; omega
  refine wpAny_bind (wpAny_newList ?_ (by rw [sizeLine_eq]; omega))
  have oL : (g.push (seqObj "list" vs.toArray 0)).get? g.objs.size = some (seqObj "list" vs.toArray 0) := Heap.get?_push_size _ rfl
  refine wpAny_bind (wpAny_holding (wpAny_call_entry slot_list_sort ⟨_, oL, rfl⟩ entry_list_sort (list_sort_treeK strKind_oneLt oL hst.keysOf (fun a b r e => keyKind_strs (by rw [← e]; exact hst)) hvl fun st a1 a2 => ⟨_, rfl, ?_⟩) (args_list_sort _)))
  obtain ⟨ss, h1, h2, h3⟩ := sorted_out_str hst a1 a2
  obtain ⟨e, he⟩ := sortedHeap_at (out := (arrOf st).map (·.2)) oL
  refine wpAny_pure ⟨_, rfl, q g _ d tk _ ss e kp (fun b o hb => ?_) he h1 (h2.trans hks) h3⟩
  rw [sortedHeap_old (Nat.ne_of_lt (Heap.lt_size hb)) (by rw [Heap.size_push]; exact Nat.lt_succ_of_lt (Heap.lt_size hb))]
  exact Heap.get?_push_of_some _ hb
abbrev siOb (ty : String) (x : Str) (t : Tok) : Obj := { cls := .type ty, data := .fields #[.str x t, .int 0 0] }
/-- set(text) -/
theorem set_text {l : List Nat} {t : Tok} {Q : Value → Shared → Prop} (hh : A.handled = none) (hb : l.length + 1 < scanBound)
    (q : ∀ g tk, Met prog w (fun j => tx [l.getD j 0]) g s.heap.objs.size l.length → (∀ b o, s.heap.get? b = some o → g.get? b = some o) → Q (.ref s.heap.objs.size) { s with heap := g, toks := tk }) : wpAny (model prog w) A (call (.type "set") [.str (tx l) t]) Q E s := by
  have z : (s.heap.push (newSetOb w)).objs.size = s.heap.objs.size + 1 := Heap.size_push ..
  have hn : (tx l).cps.size = l.length := by simp [tx]
  have hval : ∀ i v, SignAt (tx l) i v → ∃ t, v = Value.str (tx [l.getD i 0]) t := by
    rintro i v ⟨c, u, hc, rfl⟩
    have : l[i]? = some c := by simpa [tx] using hc
    exact ⟨u, by rw [List.getD_eq_getElem?_getD, this]; rfl⟩
  have hT : Shared.TypeIs { s with heap := s.heap.push (newSetOb w) } (.str (tx l) t) "str" := typeIs_str _ _ _
  rw [← hn] at hb q
  cases ha : (tx l).cps.all (· < 128)
  · refine call_set_walk (T := "str") (fp := fun it => [it]) (P := SignAt (tx l)) (St := fun it i h => h.IsStrIter it "str_iterator" (tx l) t i) hT (by rw [isSubtype_type]; kernel_rfl) (by rw [isSubtype_type]; kernel_rfl) (by decide)
      (fun A E Q y => wpAny_pyIter_wide ha (by show Q (.ref (s.heap.push (newSetOb w)).objs.size) _; rw [z]; exact y)) (fun A it hA _ => Walks.strWide hA it (tx l) t) (by simp) ⟨siOb "str_iterator" (tx l) t, ?_, rfl, rfl⟩ hval hh hb q
    rw [← z]; exact Heap.get?_push_size _ rfl
  · refine call_set_walk (T := "str") (fp := fun it => [it]) (P := SignAt (tx l)) (St := fun it i h => h.IsStrIter it "str_ascii_iterator" (tx l) t i) hT (by rw [isSubtype_type]; kernel_rfl) (by rw [isSubtype_type]; kernel_rfl) (by decide)
      (fun A E Q y => wpAny_pyIter_ascii ha (by show Q (.ref (s.heap.push (newSetOb w)).objs.size) _; rw [z]; exact y)) (fun A it hA _ => Walks.strAscii hA it (tx l) t) (by simp) ⟨siOb "str_ascii_iterator" (tx l) t, ?_, rfl, rfl⟩ hval hh hb q
    rw [← z]; exact Heap.get?_push_size _ rfl
/-- set(tuple of signs) -/
theorem set_tup {l : List Nat} {a : Addr} {its : List Value} {Q : Value → Shared → Prop} (hh : A.handled = none) (hb : l.length + 1 < scanBound) (ht : s.heap.IsTuple a its.toArray) (hv : Vals (signsV l) its)
    (q : ∀ g tk, Met prog w (fun j => tx [l.getD j 0]) g s.heap.objs.size l.length → (∀ b o, s.heap.get? b = some o → g.get? b = some o) → Q (.ref s.heap.objs.size) { s with heap := g, toks := tk }) : wpAny (model prog w) A (call (.type "set") [.ref a]) Q E s := by
  have z : (s.heap.push (newSetOb w)).objs.size = s.heap.objs.size + 1 := Heap.size_push ..
  have hn : its.toArray.size = l.length := by have := hv.length; unfold signsV at this; simpa using this.symm
  have ha : a < s.heap.objs.size := by obtain ⟨o, ho, _⟩ := ht; exact Heap.lt_size ho
  have ht1 : (s.heap.push (newSetOb w)).IsTuple a its.toArray := ht.at fun o e => Heap.get?_push_of_some _ e
  have hval : ∀ i v, its.toArray[i]? = some v → ∃ t, v = Value.str (tx [l.getD i 0]) t := by
    intro i v hi
    have hi' : its[i]? = some v := by simpa using hi
    have hlt : i < l.length := by
      have := (List.getElem?_eq_some_iff.mp hi').1
      rw [← hn]; simpa using this
    have hx : (signsV l)[i]? = some (.str (tx [l.getD i 0])) := by
      unfold signsV
      rw [List.getElem?_map, List.getElem?_eq_getElem hlt, List.getD_eq_getElem?_getD, List.getElem?_eq_getElem hlt]; rfl
    obtain ⟨u, hu, t, e⟩ := hv.get hx
    rw [hi'] at hu
    exact ⟨t, (Option.some.inj hu).trans e⟩
  rw [← hn] at hb q
  refine call_set_walk (T := "tuple") (fp := fun it => [it, a]) (P := fun i v => its.toArray[i]? = some v) (St := fun it i h => h.IsTupleIter it a i ∧ h.IsTuple a its.toArray) ht1.typeIs (by rw [isSubtype_type]; kernel_rfl) (by rw [isSubtype_type]; kernel_rfl) (by decide)
    (fun A E Q y => wpAny_pyIter_tuple ht1 (by show Q (.ref (s.heap.push (newSetOb w)).objs.size) _; rw [z]; exact y)) (fun A it hA e => Walks.tuple hA it a (by rw [e]; exact Nat.ne_of_lt (Nat.lt_succ_of_lt ha)) its.toArray) (by simp; exact fun e => absurd ha (by rw [← e]; exact Nat.lt_irrefl _)) ⟨⟨{ cls := .type "tuple_iterator", data := .fields #[.ref a, .int 0 0] }, ?_, rfl, rfl⟩, ?_⟩ hval hh hb q
  · rw [← z]; exact Heap.get?_push_size _ rfl
  · exact ht1.at fun o e => Heap.get?_push_of_some _ e
end
theorem met_out {l : List Nat} {ss ks : List Str} (hp : ss.Perm ks) (hnd : ks.Nodup) (hm : ∀ x, x ∈ ks ↔ ∃ j, j < l.length ∧ tx [l.getD j 0] = x) (hs : sortedS ss = true) :
    ∃ m : List Nat, ss = m.map (fun c => tx [c]) ∧ m.Nodup ∧ m.Pairwise (· ≤ ·) ∧ ∀ c, c ∈ m ↔ c ∈ l := by
  have all : ∀ z ∈ ss, tx [z.cps.toList.headD 0] = z := fun z hz => by
    obtain ⟨j, _, e⟩ := (hm z).mp (hp.mem_iff.mp hz)
    subst e; rfl
  have em : ss = (ss.map fun z => z.cps.toList.headD 0).map fun c => tx [c] := by
    rw [List.map_map]
    conv => lhs; rw [← List.map_id ss]
    exact List.map_congr_left fun z hz => (all z hz).symm
  refine ⟨ss.map fun z => z.cps.toList.headD 0, em, ?_, ?_, fun c => ?_⟩
  · have nd : ss.Nodup := hp.nodup_iff.mpr hnd
    rw [em] at nd
    exact List.Pairwise.of_map (fun c => tx [c]) (fun a b h e => h (by rw [e])) nd
  · refine ones_sorted _ ?_
    rw [List.map_map]
    rw [em] at hs
    exact hs
  · constructor
    · intro hc
      obtain ⟨z, hz, rfl⟩ := List.mem_map.mp hc
      obtain ⟨j, hj, e⟩ := (hm z).mp (hp.mem_iff.mp hz)
      subst e
      show l.getD j 0 ∈ l
      rw [List.getD_eq_getElem?_getD, List.getElem?_eq_getElem hj]
      exact List.getElem_mem hj
    · intro hc
      obtain ⟨j, hj, e⟩ := List.getElem_of_mem hc
      refine List.mem_map.mpr ⟨tx [c], hp.mem_iff.mpr ((hm _).mpr ⟨j, hj, ?_⟩), rfl⟩
      rw [List.getD_eq_getElem?_getD, List.getElem?_eq_getElem hj, e]; rfl
/-- v is walked as the signs l: a text, or a tuple of them -/
def SignsOf (K : PySem.W.Frag) (H : Hp) (v : V) (l : List Nat) : Prop := v = .str (tx l) ∨ ∃ a, v = .ref a ∧ SqT K H a (signsV l)
def tSortSet (K : PySem.W.Frag) (te : TE) : TE := fun σ H Q => te σ H fun v H1 => ∃ l, SignsOf K H1 v l ∧ l.length < 4000 ∧ (∀ m : List Nat, m.Nodup → (∀ c ∈ m, c ∈ l) → m.length < 64) ∧
  ∀ m : List Nat, m.Nodup → m.Pairwise (· ≤ ·) → (∀ c, c ∈ m ↔ c ∈ l) → ∀ a H2, H1 a = none → H2 = upd H1 a (.lst (m.map fun c => V.str (tx [c]))) → Q (.ref a) H2
theorem Inv.kept2 {X : Cx} {pins : List (Addr × Obj)} {σ : St} {H : Hp} {s : Shared} {h' : Heap} {t' : Nat} {d' : Drawn} (I : Inv X pins σ H s) (k : ∀ b o, s.heap.get? b = some o → h'.get? b = some o) : Inv X pins σ H { s with heap := h', drawn := d', toks := t' } :=
  I.step (g' := s.gens) (ch := []) (fun _ z => nomatch z) (fun b o _ _ _ e _ => k b o e) (fun b o _ _ _ e _ => ⟨o.slots, k b o e⟩) (fun _ _ _ _ n => n) (fun b o _ e => ⟨o, k b o e⟩) (fun _ _ e => e) (fun _ _ _ e => e) (fun b ps e => ⟨#[], by rw [e]; simp⟩)
    (fun m hm => let ⟨o, es, ep, ho, r⟩ := hm; ⟨o, es, ep, k _ o ho, r⟩) (I.hok.kept k) I.bare
theorem q_sortSet {X : Cx} {p1 p2 pos1 pos2 : Pos} {e : Expr} {te : TE} (h1 : X.mg "sorted" = none) (h3 : X.mg "set" = none) (he : QE X e te) (hc : X.calm = true := by rfl)
    (hg1 : Gl X "sorted" := by rfl) (hg2 : Gl X "set" := by rfl) (hse : starEach [e] X.env = (false, eval e X.env) :: starEach [] X.env := by rfl) : QE X (.Call (.Name "sorted" p1) [.Call (.Name "set" p2) [e] [] pos2] [] pos1) (tSortSet X.K te) := ⟨by
  intro pins s σ H Q I h
  refine wpAny_Call_Name_kw (ld_blt I hg1 h1 PyProof.Rows.boot_sorted (PyProof.Rows.callWith_builtin1 ?_) (by decide) (by decide))
  show wpAny _ _ (spliced ((false, eval (.Call (.Name "set" p2) [e] [] pos2) X.env) :: [])) _ _ s
  refine Calls.spliced_cons (wpAny_Call_Name_kw (ld_blt I hg2 h3 PyProof.Rows.boot_set (PyProof.Rows.callWith_type1 ?_ hse rfl) (by decide) (by decide)))
  rw [hse]
  show wpAny _ _ (spliced ((false, eval e X.env) :: [])) _ _ s
  refine Calls.spliced_cons (thn (he.h pins s σ H _ I h) fun u s1 ⟨v, H1, I1, r1, l, hl, hb, few, q⟩ => Calls.spliced_nil ?_)
  have hh : X.A.handled = none := I1.ok.hd hc
  have hb' : l.length + 1 < scanBound := by unfold scanBound; omega
  have fin : ∀ g tk, Met X.prog X.w (fun j => tx [l.getD j 0]) g s1.heap.objs.size l.length → (∀ b o, s1.heap.get? b = some o → g.get? b = some o) →
      wpAny (model X.prog X.w) X.A (spliced []) (fun vs s₂ => wpAny (model X.prog X.w) X.A (call (.builtin "sorted") (.ref s1.heap.objs.size :: vs)) (EP X pins σ Q) X.xe s₂) X.xe { s1 with heap := g, toks := tk } := fun g tk hM kp => by
    refine Calls.spliced_nil ?_
    obtain ⟨ks, z, nd, mem, len⟩ := hM
    have hfew : ks.length < 64 := by
      obtain ⟨m, em, mn, _, mm⟩ : ∃ m : List Nat, ks = m.map (fun c => tx [c]) ∧ m.Nodup ∧ True ∧ ∀ c ∈ m, c ∈ l := by
        have all : ∀ z ∈ ks, tx [z.cps.toList.headD 0] = z := fun z hz => by
          obtain ⟨j, _, e⟩ := (mem z).mp hz
          subst e; rfl
        have em : ks = (ks.map fun z => z.cps.toList.headD 0).map fun c => tx [c] := by
          rw [List.map_map]
          conv => lhs; rw [← List.map_id ks]
          exact List.map_congr_left fun z hz => (all z hz).symm
        refine ⟨_, em, ?_, trivial, fun c hc => ?_⟩
        · have nd' := nd
          rw [em] at nd'
          exact List.Pairwise.of_map (fun c => tx [c]) (fun a b h e => h (by rw [e])) nd'
        · obtain ⟨z, hz, rfl⟩ := List.mem_map.mp hc
          obtain ⟨j, hj, e⟩ := (mem z).mp hz
          subst e
          show l.getD j 0 ∈ l
          rw [List.getD_eq_getElem?_getD, List.getElem?_eq_getElem hj]
          exact List.getElem_mem hj
      rw [em, List.length_map]
      exact few m mn mm
    refine sorted_set z hfew hh fun g0 g1 d tk' out ss ep k0 k1 gL hst hperm hsrt => ?_
    obtain ⟨m, em, mn, mp, mm⟩ := met_out hperm nd mem hsrt
    have I2 : Inv X pins σ H1 { s1 with heap := g0, drawn := d, toks := tk' } := I1.kept2 fun b o e => k0 b o (kp b o e)
    have hfr : H1 g0.objs.size = none := I2.hok.fresh (Nat.le_refl _)
    have hvals : Vals (m.map fun c => V.str (tx [c])) out.toList := by
      have e := of_strsAre hst
      rw [em, List.map_map] at e
      exact e
    refine ⟨.ref g0.objs.size, _, I2.laid (o := .lst (m.map fun c => V.str (tx [c]))) (t' := tk') k1 (Nat.le_refl _) ?_, rfl, q m mn mp mm _ _ hfr rfl⟩
    refine ⟨?_, out.toList, ep, hvals, gL⟩
    rw [List.length_map]
    exact Nat.le_trans (Nat.le_of_lt (few m mn fun c hc => (mm c).mp hc)) (by decide)
  rcases hl with rfl | ⟨a, rfl, hT⟩
  · obtain ⟨t, rfl⟩ := r1
    exact set_text hh hb' fin
  · cases r1
    obtain ⟨its, rv, ht, _⟩ := I1.tuple hT
    exact set_tup hh hb' ht rv fin⟩
end L2
set_option Elab.async false
set_option linter.all false
set_option maxRecDepth 100000
set_option maxHeartbeats 4000000
namespace L2
open PySem PySem.Spec PyProof.Rows
/-! ### all of a list of truths -/
def rAll (K : PySem.W.Frag) : List V → Hp → VK → Prop := fun xs H Q => ∃ (p : Addr) (bs : List Bool), xs = [.ref p] ∧ SqL K H p (bs.map V.bl) ∧ Q (.bl (bs.all id)) H
theorem c_all {X : Cx} (hc : X.calm = true := by rfl) : RCall X (.builtin "all") (rAll X.K) := ⟨by
  intro pins s σ H xs us Q I r h
  obtain ⟨p, bs, rfl, hS, q⟩ := h
  obtain ⟨u, rfl, ru⟩ := vals1 r
  cases ru
  obtain ⟨its, rv, pl, hz⟩ := I.list hS
  have hh := I.ok.hd hc
  have hl : s.heap.IsList p its.toArray := pl.isList
  have hlt : p < s.heap.objs.size := by obtain ⟨o, ho, _⟩ := hl; exact Heap.lt_size ho
  have hlen : its.toArray.size = bs.length := by have := rv.length; rw [List.length_map] at this; simpa using this.symm
  refine call_all_walk (wpAny_pyIter_list hl ?_)
  refine ⟨_, _, _, _, _, _, fun i => bs.getD i true, rfl, Walks.list (A := X.A.in1) (by simpa using hh) _ p (Nat.ne_of_lt hlt) its.toArray, ⟨⟨_, Heap.get?_push_size _ rfl, rfl, rfl⟩, hl.at fun o e => Heap.get?_push_of_some _ e⟩, ?_, fun h' tk kp => ?_⟩
  · intro i v s Q E hP hQ
    have hi : its[i]? = some v := by simpa using hP
    have hlt : i < bs.length := by
      have := (List.getElem?_eq_some_iff.mp hi).1
      rw [← hlen]; simpa using this
    have hx : (bs.map V.bl)[i]? = some (.bl bs[i]) := by rw [List.getElem?_map, List.getElem?_eq_getElem hlt]; rfl
    obtain ⟨u, hu, ru⟩ := rv.get hx
    rw [hi] at hu
    obtain rfl : v = .bool bs[i] := (Option.some.inj hu).trans ru
    refine wpAny_truthy_bool ?_
    have e : bs.getD i true = bs[i] := by rw [List.getD_eq_getElem?_getD, List.getElem?_eq_getElem hlt]; rfl
    rw [← e]; exact hQ
  · have e : (List.range its.toArray.size).all (fun i => bs.getD i true) = bs.all id := by
      rw [hlen]
      conv => rhs; rw [← range_getD bs true]
      rw [List.all_map]; rfl
    rw [e]
    refine ⟨.bl _, H, I.kept (t' := tk) fun b o eb => kp b o (fun hm => ?_) (Heap.get?_push_of_some _ eb), rfl, q⟩
    rw [List.mem_singleton] at hm
    exact absurd (Heap.lt_size eb) (by rw [hm]; exact Nat.lt_irrefl _)⟩
end L2
set_option Elab.async false
set_option linter.all false
set_option maxRecDepth 100000
set_option maxHeartbeats 4000000
namespace L2
open PySem PySem.Spec PyProof.Rows
/-! ### range(i, j, -1) in a for -/
theorem size_down (a b : Int) : Builtin.Range.rangeSize a b (-1) = ((a - b).toNat : Int) := by
  unfold Builtin.Range.rangeSize
  rw [if_neg (by decide)]
  simp only [Int.neg_neg, Int.ediv_one]
  split <;> omega
theorem small_down {a b : Int} (h1 : -(2 ^ 60) ≤ a) (h2 : a < 2 ^ 60) (h3 : -(2 ^ 60) ≤ b) (h4 : b < 2 ^ 60) : Builtin.Range.small a b (-1) = true := by
  unfold Builtin.Range.small
  rw [size_down]
  simp only [Builtin.Range.rangeFitsLong, Bool.and_eq_true, Bool.or_eq_true, decide_eq_true_eq, beq_iff_eq, if_neg (show ¬ ((-1 : Int) > 0) by decide)]
  omega
def downV (i : Int) (n : Nat) : List V := (List.range n).map fun k : Nat => V.int (i - k)
def iRngD (ta : TA) : TI := fun σ H R => ta σ H fun vs H1 => ∃ i j : Int, vs = [.int i, .int j, .int (-1)] ∧ (-(2 ^ 60) ≤ i ∧ i < 2 ^ 60 ∧ -(2 ^ 60) ≤ j ∧ j < 2 ^ 60) ∧ R (Itv (downV i (i - j).toNat)) H1
theorem qi_rangeDown {X : Cx} {tg a b c : Expr} {ta : TA} {p pos : Pos} (hm : X.mg "range" = none) (ha : QA X [a, b, c] ta) (hg : Gl X "range" := by rfl) (hs : starEach [a, b, c] X.env = (false, eval a X.env) :: starEach [b, c] X.env := by rfl)
    (hs2 : (backTo pos (starEach [b, c] X.env)).any (·.1) = false := by rfl) : QI X tg (.Call (.Name "range" p) [a, b, c] [] pos) (iRngD ta) := ⟨by
  intro pins s σ H R I h
  refine Call_ (ld_blt I hg hm boot_range (PyProof.Rows.callWith_type1 (thn (ha.h pos pins s σ H _ I h) fun us s1 ⟨vs, H1, I1, r1, q1⟩ => ?_) hs hs2))
  obtain ⟨i, j, e, ⟨b1, b2, b3, b4⟩, q⟩ := q1
  subst e
  cases r1 with
  | cons x1 r1 => cases r1 with
    | cons x2 r1 => cases r1 with
      | cons x3 r1 =>
        cases r1
        obtain ⟨t1, rfl⟩ := x1
        obtain ⟨t2, rfl⟩ := x2
        obtain ⟨t3, rfl⟩ := x3
        refine call_range_3 (by decide) ?_ (Or.inl (PyProof.noPylong_small (by omega)))
        refine wpAny_pyIter_range (IsRange.new ..) (small_down b1 b2 b3 b4) ?_
        generalize hN : (i - j).toNat = n at q
        have hl : (downV i n).length = n := by unfold downV; simp
        have I2 : Inv X pins σ H1 { s1 with heap := s1.heap.push { cls := .type "range", data := .fields #[.int i t1, .int j t2, .int (-1) t3] }, toks := s1.toks } := I1.kept fun b o e => Heap.get?_push_of_some _ e
        refine ⟨(s1.heap.push { cls := .type "range", data := .fields #[.int i t1, .int j t2, .int (-1) t3] }).objs.size, [(s1.heap.push { cls := .type "range", data := .fields #[.int i t1, .int j t2, .int (-1) t3] }).objs.size], _, _, H1, rfl,
          I2.kept (t' := s1.toks) fun b o e => Heap.get?_push_of_some _ e, turn_walks (ty := "range_iterator") (fun A hA => by rw [hl]; exact Walks.range hA _ i (-1) n) (fun k v hk hp => ?_) (fun k h st => ⟨_, _, st, rfl, rfl⟩) (by decide) (fun A k s Q E st h => wpAny_pyIter_rangeiter st h), ⟨Nat.zero_le _, ?_⟩, fun b hb => ?_, q⟩
        · obtain ⟨t, rfl⟩ := hp
          rw [hl] at hk
          refine ⟨.int (i + k * (-1)), ?_, t, rfl⟩
          unfold downV
          rw [List.getElem?_map, List.getElem?_range hk]
          show some (V.int (i - k)) = _
          congr 2; omega
        · have e1 : i + ((0 : Nat) : Int) * (-1) = i := by simp
          have e2 : ((n : Nat) : Int) - ((0 : Nat) : Int) = Builtin.Range.rangeSize i j (-1) := by rw [size_down, hN]; simp
          rw [e1, e2]
          exact Heap.get?_push_size _ rfl
        · have e : b = (s1.heap.push { cls := .type "range", data := .fields #[.int i t1, .int j t2, .int (-1) t3] }).objs.size := by simpa using hb
          subst e
          exact I2.fpOk (Nat.le_refl _) (I2.hok.fresh (Nat.le_refl _))⟩
end L2
set_option Elab.async false
set_option linter.all false
set_option maxRecDepth 100000
set_option maxHeartbeats 4000000
namespace L2
open PySem PySem.Spec PyProof.Rows
/-! ### a list comprehension that is stored in a name straight away -/
section
variable {X : Cx} {elt tg iter : Expr} {ifs : List Expr} {scope : Scope} {pos : Pos} {nm : List Str} {cl : List (Str × Addr)} {cap : List (Option Nat)} {wi : TI} {g : TG} {tc : TT} {te : TE}
theorem ps_setComp {x0 : Str} {p0 p1 : Pos} {gx : TG} (hgx : PG X (.Name x0 p0) gx) (hsw : swapsWith (.ListComp elt [⟨tg, iter, ifs, 0⟩] scope pos) (some (.Name x0 p0)) p1.line X.env = pure true) (hcalm : X.calm = true) (hclos : closureFor scope X.env = pure cl) (hcl : ∀ x c, cl.lookup x = some c → X.env.cells.lookup x = some c)
    (hkind : scope.kind = .function) (hnames : ∀ x ∈ scope.names, x.2 = .local → scope.names.lookup x.1 = some .local) (hcell : ∀ y ∈ scope.names, y.2 ≠ .cell)
    (hhas : ∀ x, ((relabel scope X.env).names.lookup x = some .cell ∨ (relabel scope X.env).names.lookup x = some .free) → ∃ c, cl.lookup x = some c)
    (hcap : ∀ (i j : Nat), cap[i]? = some (some j) → ∃ x, nm[i]? = some x ∧ X.N[j]? = some x ∧ CapOk X scope cl x) (hlen : cap.length = nm.length)
    (hi : PI X tg iter wi) (hg : ∀ C s0 H0 fp, PG (cxComp X nm scope cl C s0 H0 fp) tg g) (ht : ∀ C s0 H0 fp, PTs (cxComp X nm scope cl C s0 H0 fp) ifs tc)
    (he : ∀ C s0 H0 fp, PE (cxComp X nm scope cl C s0 H0 fp) elt te) (hs : ∀ x, foldedSetIterable iter X.env x = pure x := by intro _; rfl) :
    PS X (.Assign [.Name x0 p0] (.ListComp elt [⟨tg, iter, ifs, 0⟩] scope pos) p1) (tAsg (tComp cap wi g tc te) gx) := by
  intro pins s σ H D I h
  rw [exec_Assign_Name_used _ _ _ _ hsw]
  suffices main : wpAny (model X.prog X.w) X.A (comprehension (.ListComp elt [⟨tg, iter, ifs, 0⟩] scope pos) scope X.env (firstIterPos [⟨tg, iter, ifs, 0⟩] pos) (newList []) (firstAsync [⟨tg, iter, ifs, 0⟩]) (firstIter [⟨tg, iter, ifs, 0⟩] X.env) (some (assign (.Name x0 p0) X.env))) (fun _ s' => SP X pins D .next s') X.xe s from
    wpAny_bind (wpAny_standAt (wpAny_bind (wpAny_bind (wpAny_mono main (fun _ s' h => wpAny_pure (wpAny_pure h)) fun _ _ z => z))))
  refine wpAny_comprehension_free (use := some (assign (.Name x0 p0) X.env)) rfl hs hclos hkind hnames (thn (hi pins s σ H _ I h) fun v s1 h1 => thn h1 fun itv s2 h2 => ?_)
  obtain ⟨it, fp, tn, J, H1, e, I2, T, st2, f2, W, ⟨m0, w0⟩, turn⟩ := h2
  subst e
  have hfpn : ∀ b ∈ fp, b < s2.heap.objs.size := fun b hb => let ⟨o, ho, _⟩ := T.obj _ _ st2 b hb; Heap.lt_size ho
  have hfpc : ∀ b ∈ fp, ∀ x c, X.env.cells.lookup x = some c → c ≠ b := fun b hb => (f2 b hb).2.2.2.2.1
  -- the accumulator and the block's map
  refine wpAny_newObj_type (wpAny_newFunctionEnv hcell (by intro y hy; simp at hy) (fun h₁ hns₁ hsb₁ => ?_) hkind)
  dsimp only at hns₁ hsb₁ ⊢
  generalize hH2 : s2.heap.push { cls := .type "list", dict := none, data := .seq ([] : List Value).toArray } = G2 at hns₁ hsb₁ ⊢
  have hC : G2.objs.size = s2.heap.objs.size + 1 := by rw [← hH2, Heap.size_push]
  have hDC : s2.heap.objs.size ≠ G2.objs.size := by rw [hC]; exact Nat.ne_of_lt (Nat.lt_succ_self _)
  have old : ∀ b o, s2.heap.get? b = some o → h₁.get? b = some o := fun b o e => hsb₁.extBut b o (by rw [hC]; exact Nat.ne_of_lt (Nat.lt_succ_of_lt (Heap.lt_size e))) (Heap.get?_push_of_some _ (hH2 ▸ Heap.get?_push_of_some _ e))
  have hacc : h₁.get? s2.heap.objs.size = some { cls := .type "list", data := .seq ([] : List Value).toArray } := hsb₁.extBut _ _ hDC (Heap.get?_push_of_some _ (hH2 ▸ Heap.get?_push_size _ rfl))
  -- the block's invariant at its start
  have okB : (cxComp X nm scope cl G2.objs.size s2 H1 fp).Ok := by
    refine ⟨I2.ok.mod, hkind, I2.ok.glob, I2.ok.blt, by show s2.heap.objs.size ≤ G2.objs.size; omega, fun x y c h1 h2 => I2.ok.inj x y c (hcl _ _ h1) (hcl _ _ h2), fun x hx => hhas x hx, fun x c h0 => (by cases h0), fun hc => I2.ok.hd hcalm, I2.ok.frames, .inl rfl, ?_, ?_, ?_, ?_, ?_, ?_, ?_⟩
    · intro b hb
      exact ⟨Nat.ne_of_lt (Nat.lt_of_lt_of_le (hfpn b hb) (by show _ ≤ G2.objs.size; omega)), fun x c hx => hfpc b hb x c (hcl _ _ hx)⟩
    · exact fun b o hb => I2.bs b o hb
    · exact Nat.le_trans I2.ok.bsz I2.sz
    · intro b o hb z
      rcases (f2 b z).2.2.2.1 with q | q
      · exact I2.ok.noex b o hb q
      · exact absurd (Heap.lt_size (I2.ok.bs b o hb).1) (Nat.not_lt.mpr q)
    · intro b hb z
      rcases List.mem_cons.mp (I2.stkSub b z) with q | q
      · exact (f2 b hb).2.1 q
      · exact (f2 b hb).2.2.1 q
    · exact I2.stack
    · exact I2.stkFree
  have I4 : Inv (cxComp X nm scope cl G2.objs.size s2 H1 fp) [] (capSt cap σ) H1 { s2 with heap := h₁, toks := s2.toks + ([] : List (Str × Value)).length } := by
    refine recap hcap hlen I2 hfpc (σ2 := List.replicate nm.length none) ⟨okB, rfl, I2.bare, Un.kept old, ⟨_, hns₁, fun i x v _ e2 => ?_⟩, fun x c hx => ?_, ?_, fun x c hx => I2.freeC x c (hcl _ _ hx), fun p hp => absurd hp (by simp), I2.hok.kept old, by simp⟩
    · rw [List.getElem?_replicate] at e2; split at e2 <;> cases e2
    · obtain ⟨v, hv⟩ := I2.cell x c (hcl _ _ hx)
      exact ⟨v, hv.keeps old⟩
    · exact I2.hok.fresh (by show _ ≤ G2.objs.size; omega)
  have hsz0 : ∀ {Hx : Hp} {sx : Shared} {px : List (Addr × Obj)} {σx : St}, Inv (cxComp X nm scope cl G2.objs.size s2 H1 fp) px σx Hx sx → Hx s2.heap.objs.size = none → ∀ {oa : Obj}, sx.heap.get? s2.heap.objs.size = some oa → (∀ v, oa.data ≠ .cell v) →
      Inv (cxComp X nm scope cl G2.objs.size s2 H1 fp) [(s2.heap.objs.size, oa)] σx Hx sx := fun {Hx sx px σx} Ix hn {oa} ho hd => Ix.pins_of fun p hp => by
    have e : p = (s2.heap.objs.size, oa) := by simpa using hp
    subst e
    exact ⟨ho, hn, hDC, fun z => by
      obtain ⟨_, o, q, _⟩ := I2.stack.mem z
      exact absurd (Heap.lt_size q) (Nat.lt_irrefl _), hd⟩
  have hfpB : ∀ {Hx : Hp} {oa : Obj}, (∀ b ∈ fp, Hx b = none) → ∀ b ∈ fp, FpOk (cxComp X nm scope cl G2.objs.size s2 H1 fp) [(s2.heap.objs.size, oa)] Hx b := fun {Hx oa} hn b hb =>
    ⟨hn b hb, (okB.exf b hb).1, okB.exfs b hb, .inl hb, (okB.exf b hb).2, fun p hp => by
      have e : p = (s2.heap.objs.size, oa) := by simpa using hp
      subst e
      exact Nat.ne_of_gt (hfpn b hb)⟩
  have hcalmB : (cxComp X nm scope cl G2.objs.size s2 H1 fp).calm = true := hcalm
  have loop : ∀ sx : Shared, sx = { s2 with heap := h₁, toks := s2.toks + ([] : List (Str × Value)).length } →
      codeAny (model X.prog X.w) X.A (.compLoop (.ListComp elt [⟨tg, iter, ifs, 0⟩] scope pos) 0 (.ref it) (.ref s2.heap.objs.size) (compEnvC scope cl G2.objs.size X.env))
        (compPost (model X.prog X.w) X.A X.xe (some (assign (.Name x0 p0) X.env)) (fun _ s' => SP X pins D .next s') (.ref s2.heap.objs.size) G2.objs.size) sx := by
    rintro sx rfl
    refine codeAny_loop rfl (fun n s' => ∃ i ys H', Inv (cxComp X nm scope cl G2.objs.size s2 H1 fp) [] (capSt cap σ) H' s' ∧ tn i s'.heap ∧ (∀ b ∈ fp, H' b = none) ∧ H' s2.heap.objs.size = none ∧
      (∃ its k, Vals ys its ∧ s'.heap.get? s2.heap.objs.size = some { cls := .type "list", data := .seq its.toArray k }) ∧ W i n ys H') ?_ m0
      ⟨0, [], H1, I4, T.keep _ _ _ st2 (fun b _ o e => old b o e), fun b hb => (f2 b hb).1, I2.fresh, ⟨[], 0, .nil, hacc⟩, w0⟩
    rintro n s3 ⟨i, ys, H3, I3, st3, fr3, na3, ⟨its, ka, rv, ea⟩, w3⟩
    show wpAny _ X.A ((compTurn (.ListComp elt [⟨tg, iter, ifs, 0⟩] scope pos) 0 (.ref it) (.ref s2.heap.objs.size) (compEnvC scope cl G2.objs.size X.env)).onRaise (fun x => do noteFrame x (compEnvC scope cl G2.objs.size X.env); theTreesLotGoes x)) _ _ s3
    refine wpAny_noted ?_
    rw [compTurn_list]
    refine wpAny_bind (wpAny_standAt ?_)
    have I3p := hsz0 I3 na3 ea (fun v z => by cases z)
    rcases turn i n ys H3 w3 with ⟨stop, hz, qn⟩ | ⟨go, step⟩
    · refine wpAny_bind (wpAny_mono (T.done (cxComp X nm scope cl G2.objs.size s2 H1 fp) rfl rfl rfl hcalmB i _ s3 _ H3 (fun _ _ => False) I3p (hfpB fr3) st3 stop) (fun r s4 hr => ?_) fun _ _ z => z.elim)
      obtain ⟨hr, I4'⟩ := hr
      subst hr
      refine wpAny_pure ?_
      obtain ⟨m4, hn4, _⟩ := id I4'.loc
      have pa := I4'.pin (s2.heap.objs.size, { cls := .type "list", data := .seq its.toArray ka }) (by simp)
      have ne : ∀ b o, s2.heap.get? b = some o → b ≠ s2.heap.objs.size ∧ b ≠ G2.objs.size := fun b o e => ⟨Nat.ne_of_lt (Heap.lt_size e), Nat.ne_of_lt (by rw [hC]; exact Nat.lt_succ_of_lt (Heap.lt_size e))⟩
      have I5 : Inv X pins σ (upd H3 s2.heap.objs.size (.lst ys)) s4 := by
        refine I2.call' (ch := fp) I4'.os ⟨fun b o e n hb hx => ?_, fun b o e n hb hx => ?_, fun b o e n hx => ?_, fun b o e hx => ?_, fun b xs e => ?_, fun b o u e => ?_, fun b ps e => ?_⟩ ?_ I4'.bare fun b hb => ?_
        · exact I4'.base.keep b o e n hb hx
        · exact I4'.base.slot b o e n hb hx
        · rw [upd_ne (ne b o e).1]; exact I4'.base.free b o e n hx
        · exact I4'.base.there b o e hx
        · have q := I4'.base.tups b xs e
          rw [upd_ne (ne_of_none q na3)]; exact q
        · have q := I4'.base.frzs b o u e
          rw [upd_ne (ne_of_none q na3)]; exact q
        · obtain ⟨mr, q⟩ := I4'.base.tbls b ps e
          exact ⟨mr, by rw [upd_ne (ne_of_none q na3)]; exact q⟩
        · intro b o e
          by_cases hb : b = s2.heap.objs.size
          · subst hb
            rw [upd_same] at e; cases e
            exact ⟨hz, its, ka, rv, pa.1⟩
          · rw [upd_ne hb] at e
            exact (I4'.hok b o e).stay (fun c u hc q => q) (fun c q => by rw [upd_ne (ne_of_none q na3)]; exact q) fun c xs q => by rw [upd_ne (ne_of_none q na3)]; exact q
        · obtain ⟨_, g1, _, g3, g4, g5⟩ := f2 b hb
          exact ⟨g3, g1, g4, g5⟩
      obtain ⟨oC, es, ep, hoC, hdC, hrC⟩ := hn4
      have fr : H3 G2.objs.size = none := I4'.free
      have lC : s2.heap.objs.size ≤ G2.objs.size := by rw [hC]; exact Nat.le_succ _
      have neL : G2.objs.size ≠ X.env.locals := Nat.ne_of_gt (Nat.lt_of_lt_of_le I2.lt lC)
      have I5p : Inv X (pins ++ [(G2.objs.size, oC)]) σ (upd H3 s2.heap.objs.size (.lst ys)) s4 := I5.pins_of fun p hp => by
        rcases List.mem_append.mp hp with z | z
        · exact I5.pin p (List.mem_append_right _ z)
        · have e : p = (G2.objs.size, oC) := by simpa using z
          subst e
          exact ⟨hoC, by rw [upd_ne (Ne.symm hDC)]; exact fr, neL, I2.nofs lC, fun v z => by rw [hdC] at z; cases z⟩
      refine wpAny_mono (hgx _ s4 σ _ (.ref s2.heap.objs.size) (.ref s2.heap.objs.size) _ I5p rfl (qn _ na3)) (fun _ s5 h5 => ?_) fun _ _ z => z
      obtain ⟨σ', H', I6, nx⟩ := h5
      have pC := I6.pin (G2.objs.size, oC) (List.mem_append_right _ (List.mem_append_right _ (List.mem_singleton.mpr rfl)))
      have I7 : Inv X pins σ' H' s5 := I6.pins_of fun p hp => I6.pin p (List.mem_append_right _ (List.mem_append_left _ hp))
      refine ⟨m4, ⟨oC, es, ep, pC.1, hdC, hrC⟩, fun h' hs' => ?_⟩
      refine ⟨σ', H', I7.turned (t' := s5.toks) (it := G2.objs.size) (fun b o hb e => hs'.extBut b o hb e) pC.2.1 neL (.inr (Nat.le_trans I2.sz lC)) (fun x c hx z => ?_) (fun p hp z => ?_), nx⟩
      · obtain ⟨v, o, ho, _⟩ := I2.cell x c hx
        exact absurd (Heap.lt_size ho) (by rw [z]; exact Nat.not_lt.mpr lC)
      · have := (I2.pin p hp).1
        exact absurd (Heap.lt_size this) (by rw [z]; exact Nat.not_lt.mpr lC)
    · refine wpAny_bind (wpAny_mono (T.item (cxComp X nm scope cl G2.objs.size s2 H1 fp) rfl rfl rfl hcalmB i _ s3 _ H3 (fun _ _ => False) I3p (hfpB fr3) st3 go) (fun r s4 hr => ?_) fun _ _ z => z.elim)
      obtain ⟨u, hr, h4⟩ := hr
      subst hr
      dsimp only
      refine wpAny_bind (wpAny_mono h4 (fun _ s5 h5 => ?_) fun _ _ z => z.elim)
      obtain ⟨x, H5, I5, r5, y5, st5, fr5⟩ := h5
      have I5' := I5.pinned (hfpB fr5) (T.obj _ _ st5)
      refine wpAny_bind (wpAny_mono (hg _ _ _ _ _ s5 _ H5 x u _ I5' r5 (step x H5 y5)) (fun _ s6 h6 => ?_) fun _ _ z => z.elim)
      obtain ⟨σ6, H6, I6, q6⟩ := h6
      refine wpAny_bind (wpAny_mono (ht _ _ _ _ _ s6 σ6 H6 _ I6 q6) (fun ok s7 h7 => ?_) fun _ _ z => z.elim)
      obtain ⟨H7, I7, q7⟩ := h7
      have back : ∀ {H8 : Hp} {s8 : Shared} {ys' : List V} {its' : List Value} {k' : Nat}, Inv (cxComp X nm scope cl G2.objs.size s2 H1 fp) [] σ6 H8 s8 → (∀ b ∈ fp, ∀ o, s5.heap.get? b = some o → s8.heap.get? b = some o) → (∀ b ∈ fp, H8 b = none) → H8 s2.heap.objs.size = none →
          Vals ys' its' → s8.heap.get? s2.heap.objs.size = some { cls := .type "list", data := .seq its'.toArray k' } → (∃ m', m' < n ∧ W (i + 1) m' ys' H8) →
          ∃ m, m < n ∧ ∃ i ys H', Inv (cxComp X nm scope cl G2.objs.size s2 H1 fp) [] (capSt cap σ) H' s8 ∧ tn i s8.heap ∧ (∀ b ∈ fp, H' b = none) ∧ H' s2.heap.objs.size = none ∧
            (∃ its k, Vals ys its ∧ s8.heap.get? s2.heap.objs.size = some { cls := .type "list", data := .seq its.toArray k }) ∧ W i m ys H' :=
        fun {H8 s8 ys' its' k'} I8 kf f8 n8 rv8 e8 ⟨m', hm, w8⟩ => ⟨m', hm, i + 1, ys', H8, recap hcap hlen I2 hfpc I8, T.keep _ _ _ st5 kf, f8, n8, ⟨its', k', rv8, e8⟩, w8⟩
      cases ok with
      | false =>
        refine wpAny_pure ⟨rfl, ?_⟩
        have q7' : ∃ m', m' < n ∧ W (i + 1) m' ys H7 := by simpa using q7
        have pa := I7.pin (s2.heap.objs.size, { cls := .type "list", data := .seq its.toArray ka }) (by simp)
        refine back (I7.pins_of fun p hp => absurd hp (by simp)) (fun b hb o e => ?_) (fun b hb => ?_) pa.2.1 rv pa.1 q7'
        · exact (I7.pin (b, o) (List.mem_append_right _ (List.mem_append_right _ (mem_pinsAt hb e)))).1
        · obtain ⟨o, e, d⟩ := T.obj _ _ st5 b hb
          exact (I7.pin (b, o) (List.mem_append_right _ (List.mem_append_right _ (mem_pinsAt hb e)))).2.1
      | true =>
        rw [if_pos rfl] at q7
        refine wpAny_bind (wpAny_bind (wpAny_mono (he _ _ _ _ _ s7 σ6 H7 _ I7 q7) (fun xv s8 h8 => ?_) fun _ _ z => z.elim))
        obtain ⟨y, H8, I8, r8, hzy, q8⟩ := h8
        have pa := I8.pin (s2.heap.objs.size, { cls := .type "list", data := .seq its.toArray ka }) (by simp)
        refine wpAny_bind (append_plain pa.1 (by rw [← rv.length]; exact hzy) fun h' k' tk e9 sb => ?_)
        refine wpAny_pure (wpAny_pure ⟨rfl, ?_⟩)
        have I9 : Inv (cxComp X nm scope cl G2.objs.size s2 H1 fp) [] σ6 H8 { s8 with heap := h', toks := tk } :=
          (Inv.pins_of (pins' := []) I8 fun p hp => absurd hp (by simp)).turned (it := s2.heap.objs.size) (fun b o hb e => sb b o hb e) pa.2.1 hDC (.inr (Nat.le_refl _)) (fun x c hx z => by
            obtain ⟨v, hv⟩ := I2.cell x c (hcl _ _ hx)
            exact absurd hv.lt (by rw [z]; exact Nat.lt_irrefl _)) (fun p hp => absurd hp (by simp))
        refine back I9 (fun b hb o e => ?_) (fun b hb => ?_) pa.2.1 (rv.append (.cons r8 .nil)) e9 q8
        · exact sb b o (Nat.ne_of_lt (hfpn b hb)) (I8.pin (b, o) (List.mem_append_right _ (List.mem_append_right _ (mem_pinsAt hb e)))).1
        · obtain ⟨o, e, d⟩ := T.obj _ _ st5 b hb
          exact (I8.pin (b, o) (List.mem_append_right _ (List.mem_append_right _ (mem_pinsAt hb e)))).2.1
  exact codeAny_compStart_list (loop _ rfl) (T.self _ _ _ _ _ (T.keep _ _ _ st2 fun b _ o e => old b o e) (loop _ rfl))
end
theorem qs_setComp {X : Cx} {x0 : Str} {p0 p1 : Pos} {gx : TG} {elt tg iter : Expr} {ifs : List Expr} {scope : Scope} {pos : Pos} {nm : List Str} {cap : List (Option Nat)} {wi : TI} {g : TG} {tc : TT} {te : TE} {m : Nat} (hgx : QG X (.Name x0 p0) gx) (hcalm : X.calm = true)
    (hcells : X.env.cells = cellsFrom m X.env.scope.names []) (hkind : scope.kind = .function) (hB : capB X.env.scope.names scope.names nm cap X.N = true)
    (hi : QI X tg iter wi) (hg : ∀ cl C s0 H0 fp, QG (cxComp X nm scope cl C s0 H0 fp) tg g) (ht : ∀ cl C s0 H0 fp, QTs (cxComp X nm scope cl C s0 H0 fp) ifs tc)
    (he : ∀ cl C s0 H0 fp, QE (cxComp X nm scope cl C s0 H0 fp) elt te) (hs : ∀ x, foldedSetIterable iter X.env x = pure x := by intro _; rfl) (hsw : swapsWith (.ListComp elt [⟨tg, iter, ifs, 0⟩] scope pos) (some (.Name x0 p0)) p1.line X.env = pure true := by first | rfl | kernel_rfl) :
    QS X (.Assign [.Name x0 p0] (.ListComp elt [⟨tg, iter, ifs, 0⟩] scope pos) p1) (tAsg (tComp cap wi g tc te) gx) := by
  simp only [capB, Bool.and_eq_true, List.all_eq_true, Bool.or_eq_true, Bool.not_eq_true', beq_iff_eq, beq_eq_false_iff_ne] at hB
  obtain ⟨⟨⟨⟨b1, b2⟩, b3⟩, b4⟩, b5⟩ := hB
  have has : ∀ x ∈ scope.names, x.2 = .free → ∃ c, X.env.cells.lookup x.1 = some c := fun x hx hk => by
    rw [hcells]
    rcases b3 x hx with z | z
    · exact absurd hk z
    · exact cell_has z
  have hcl : ∀ x c, (clFrom X.env scope.names []).lookup x = some c → X.env.cells.lookup x = some c := fun x c h => clFrom_ok scope.names [] has (by simp) (x, c) (lookup_mem' h)
  have hin : ∀ x, (x, NameKind.free) ∈ scope.names → ∃ c, (clFrom X.env scope.names []).lookup x = some c := fun x h => let ⟨_, q⟩ := clFrom_mem (env := X.env) scope.names [] x h; mem_lookup q
  have hmap : (relabel scope X.env).names = scope.names.map fun y => if (y.2 == .free && X.env.scope.kind == .function && X.env.kindOf y.1 == some .cell) then (y.1, NameKind.cell) else y := by
    show scope.names.map _ = _
    refine List.map_congr_left fun y _ => ?_
    obtain ⟨a, b⟩ := y
    rfl
  have fr : ∀ x, ((relabel scope X.env).names.lookup x = some .cell ∨ (relabel scope X.env).names.lookup x = some .free) → (x, NameKind.free) ∈ scope.names := fun x h => by
    have h' : ∃ k, (x, k) ∈ (relabel scope X.env).names ∧ (k = .cell ∨ k = .free) := by
      rcases h with h | h
      · exact ⟨_, lookup_mem' h, .inl rfl⟩
      · exact ⟨_, lookup_mem' h, .inr rfl⟩
    obtain ⟨k, hm, hk⟩ := h'
    rw [hmap] at hm
    obtain ⟨y, hy, e⟩ := List.mem_map.mp hm
    obtain ⟨a, b⟩ := y
    by_cases hb : b = .free
    · subst hb
      have : a = x := by split at e <;> (cases e; rfl)
      subst this; exact hy
    · rw [if_neg (by simp [hb])] at e
      cases e
      rcases hk with rfl | rfl
      · exact absurd rfl (b2 _ hy)
      · exact absurd rfl hb
  refine ⟨ps_setComp hgx.h hsw (cl := clFrom X.env scope.names []) (cap := cap) (nm := nm) hcalm (clFor has) hcl hkind (fun x hx hk => (b1 x hx).resolve_left fun z => z hk) (fun y hy => b2 y hy) (fun x hx => hin x (fr x hx)) (fun i j e => ?_) b4 hi.h (fun C s0 H0 fp => (hg _ C s0 H0 fp).h) (fun C s0 H0 fp => (ht _ C s0 H0 fp).h) (fun C s0 H0 fp => (he _ C s0 H0 fp).h) hs⟩
  have hi' : i < cap.length := (List.getElem?_eq_some_iff.mp e).1
  have q := b5 i (List.mem_range.mpr hi')
  rw [e] at q
  dsimp only at q
  cases hx : nm[i]? with
  | none => rw [hx] at q; simp at q
  | some x =>
    cases hy : X.N[j]? with
    | none => rw [hx, hy] at q; simp at q
    | some y =>
      rw [hx, hy] at q
      simp only [Bool.and_eq_true, beq_iff_eq] at q
      obtain ⟨⟨rfl, q1⟩, q2⟩ := q
      refine ⟨x, rfl, rfl, .inr (.inl q1), (by rw [q1]; decide), ?_, ?_⟩
      · obtain ⟨c, hc⟩ := hin x (lookup_mem' q2)
        rw [hc, hcl _ _ hc]
      · rw [hmap]; exact lookup_free (env := X.env) q2
/-- the rest behind a statement, by what holds there -/
theorem cut1 {a b : TS} {D : Ends} {σ : St} {H : Hp} (G : St → Hp → Prop) (hb : ∀ σ' H', G σ' H' → b D σ' H') (ha : ∀ P : St → Hp → Prop, (∀ σ' H', G σ' H' → P σ' H') → a { D with nx := P } σ H) : tSeq a b D σ H := ha (b D) hb
theorem cut4 {a b c d e : TS} {D : Ends} {σ : St} {H : Hp} (G : St → Hp → Prop) (he : ∀ σ' H', G σ' H' → e D σ' H') (ha : ∀ P : St → Hp → Prop, (∀ σ' H', G σ' H' → P σ' H') → tSeq a (tSeq b (tSeq c d)) { D with nx := P } σ H) : tSeq a (tSeq b (tSeq c (tSeq d e))) D σ H := ha (e D) he
/-! ### in a block: the facts' fragment by its own name -/
theorem i_listK {X : Cx} {K : PySem.W.Frag} (h : X.K = K) : RIx X (rIxL K) := h ▸ i_list
theorem i_tupK {X : Cx} {K : PySem.W.Frag} (h : X.K = K) : RIx X (rIxT K) := h ▸ i_tup
theorem c_lenK {X : Cx} {K : PySem.W.Frag} (h : X.K = K) : RCall X (.builtin "len") (rLenQ K) := h ▸ c_len_seq
end L2
set_option Elab.async false
set_option linter.all false
set_option maxRecDepth 100000
set_option maxHeartbeats 4000000
namespace L2
open PySem PySem.Spec PyProof.Rows
open PySem.Builtin PySem.Builtin.Str in
/-- text.split(sep): a new list of the parts -/
theorem call_split {prog : Program} {w : World} {A : Around} {E : Value → Shared → Prop} {s : Shared} {x y : Str} {t u : Tok} {Q : Value → Shared → Prop} (hy : (y.length == 0) = false) (hz : x.length + 2 ≤ sizeLine)
    (q : ∀ (l : List (Str × Tok)) (k : Nat), l.map (·.1) = Txt.split x y → Q (.ref s.heap.objs.size) { s with heap := s.heap.push { cls := .type "list", data := .seq (strValues l).toArray }, toks := k }) :
    wpAny (model prog w) A (call (.builtin "str.split") [.str x t, .str y u]) Q E s := by
  have few : (partsBetween x (occurrences x y 0 x.length (x.length + 1)) y.length).length ≤ sizeLine := by
    have z := StrLaws.occ_length_le x y 0 x.length (x.length + 1)
    rw [length_partsBetween]
    omega
  have T := typeIs_str s x t
  cases c1 : (decide (x.length < y.length) || decide (strKind x < strKind y)) with
  | true => exact call_meets PySem.F.slot_str_split T PySem.F.entry_str_split (PySem.F.args_str_split_2 _ _) (meets_str_split_cannot_occur x y t u c1) (q [(x, t)] s.toks (if_pos c1).symm)
  | false =>
    have n1 := ne_true_of_eq_false c1
    cases c2 : (occurrences x y 0 x.length (x.length + 1)).isEmpty with
    | true => exact call_meets PySem.F.slot_str_split T PySem.F.entry_str_split (PySem.F.args_str_split_2 _ _) (meets_str_split_not_found x y t u c1 hy c2) (q [(x, t)] s.toks ((if_neg n1).trans (if_pos c2)).symm)
    | false =>
      have n2 := ne_true_of_eq_false c2
      refine call_meets PySem.F.slot_str_split T PySem.F.entry_str_split (PySem.F.args_str_split_2 _ _) (meets_str_split_sep x y t u c1 hy c2 (by omega) few) ?_
      have z := q (numbered s.toks (partsBetween x (occurrences x y 0 x.length (x.length + 1)) y.length)) (s.toks + (partsBetween x (occurrences x y 0 x.length (x.length + 1)) y.length).length) ((numbered_texts _ _).trans ((if_neg n1).trans (if_neg n2)).symm)
      rw [← strsFrom_eq] at z
      exact z
/-! ### parts of a text -/
theorem joinN_tail {c : Nat} {x y : List Nat} {r : List (List Nat)} : joinN [c] (x :: y :: r) = x ++ c :: joinN [c] (y :: r) := by show x ++ [c] ++ _ = _; simp
theorem cut_once {c : Nat} : ∀ {x x' r r' : List Nat}, c ∉ x → c ∉ x' → x ++ c :: r = x' ++ c :: r' → x = x' ∧ r = r'
  | [], [], _, _, _, _, e => ⟨rfl, by simpa using e⟩
  | [], a :: x', _, _, _, h', e => by
    have : c = a := by simpa using (List.cons.inj e).1
    exact absurd (this ▸ List.mem_cons_self) h'
  | a :: x, [], _, _, h, _, e => by
    have : a = c := by simpa using (List.cons.inj e).1
    exact absurd (this ▸ List.mem_cons_self) h
  | a :: x, b :: x', _, _, h, h', e => by
    obtain ⟨e1, e2⟩ := List.cons.inj e
    obtain ⟨i1, i2⟩ := cut_once (fun z => h (List.mem_cons_of_mem _ z)) (fun z => h' (List.mem_cons_of_mem _ z)) e2
    exact ⟨by rw [e1, i1], i2⟩
theorem joinN_inj {c : Nat} : ∀ (ws vs : List (List Nat)), ws ≠ [] → vs ≠ [] → (∀ w ∈ ws, c ∉ w) → (∀ w ∈ vs, c ∉ w) → joinN [c] ws = joinN [c] vs → ws = vs
  | [], _, h, _, _, _, _ => absurd rfl h
  | _, [], _, h, _, _, _ => absurd rfl h
  | [x], [y], _, _, _, _, e => by rw [show x = y from e]
  | [x], y :: y2 :: r, _, _, h, _, e => by
    rw [joinN_tail] at e
    have e : x = y ++ c :: joinN [c] (y2 :: r) := e
    exact absurd (by rw [e]; simp) (h x List.mem_cons_self)
  | x :: x2 :: r, [y], _, _, _, h, e => by
    rw [joinN_tail] at e
    have e : x ++ c :: joinN [c] (x2 :: r) = y := e
    exact absurd (by rw [← e]; simp) (h y List.mem_cons_self)
  | x :: x2 :: r, y :: y2 :: r', _, _, h, h', e => by
    rw [joinN_tail, joinN_tail] at e
    obtain ⟨e1, e2⟩ := cut_once (h x List.mem_cons_self) (h' y List.mem_cons_self) e
    have := joinN_inj (x2 :: r) (y2 :: r') (by simp) (by simp) (fun w hw => h w (List.mem_cons_of_mem _ hw)) (fun w hw => h' w (List.mem_cons_of_mem _ hw)) e2
    rw [e1, this]
theorem split_tx {c : Nat} {ws : List (List Nat)} (hn : ws ≠ []) (hf : ∀ w ∈ ws, c ∉ w) : Txt.split (tx (joinN [c] ws)) (tx [c]) = ws.map tx := by
  have e := StrLaws.join_split (tx (joinN [c] ws)) (tx [c])
  have fr := StrLaws.split_free (tx (joinN [c] ws)) c
  have ps := split_pos (tx (joinN [c] ws)) (tx [c])
  generalize hS : Txt.split (tx (joinN [c] ws)) (tx [c]) = S at e ps
  have fr : ∀ p ∈ S, c ∉ p.cps.toList := fun p hp => fr p (by rw [← hS] at hp; exact hp)
  have em : S = (S.map fun z => z.cps.toList).map tx := by
    rw [List.map_map]
    conv => lhs; rw [← List.map_id S]
    exact List.map_congr_left fun z _ => (tx_of z).symm
  have ej : Str.join (tx [c]) ((S.map fun z => z.cps.toList).map tx) = tx (joinN [c] (S.map fun z => z.cps.toList)) := by
    have := join_tx [c] (S.map fun z => z.cps.toList)
    rw [← this]
    show _ = Builtin.Str.glued _ _
    rw [StrLaws.glued_eq_join]
  rw [em, ej] at e
  have e := tx_inj.mp e
  rw [em]
  refine congrArg _ (joinN_inj _ ws (fun z => ?_) hn (fun w hw => ?_) hf e)
  · rw [List.map_eq_nil_iff] at z; rw [z] at ps; exact absurd ps (by decide)
  · obtain ⟨p, hp, rfl⟩ := List.mem_map.mp hw
    exact fr p hp
def rSplit : V → List V → Hp → VK → Prop := fun x vs H Q => ∃ (c : Nat) (ws : List (List Nat)), x = .str (tx (joinN [c] ws)) ∧ vs = [.str (tx [c])] ∧ ws ≠ [] ∧ (∀ w ∈ ws, c ∉ w) ∧ (joinN [c] ws).length + 2 ≤ sizeLine ∧ ws.length ≤ sizeLine ∧ ∀ p H2, H p = none → H2 = upd H p (.lst (ws.map fun l => V.str (tx l))) → Q (.ref p) H2
theorem m_split {X : Cx} : RMt X "str.split" rSplit := ⟨by
  intro pins s σ H x vs v us Q I rx rv h
  obtain ⟨c, ws, rfl, rfl, hn, hf, hz, hw, q⟩ := h
  obtain ⟨t, rfl⟩ := rx
  obtain ⟨u, rfl, t2, rfl⟩ := rv.one
  refine call_split (by rfl) (by rw [tx_len]; exact hz) fun l k e => ?_
  rw [split_tx hn hf] at e
  have hfr : H s.heap.objs.size = none := I.hok.fresh (Nat.le_refl _)
  have hv : Vals (ws.map fun l => V.str (tx l)) (strValues l) := by
    have z := of_strsAre (strsAre_of_values l)
    rw [e, List.map_map] at z
    exact z
  refine ⟨.ref s.heap.objs.size, _, I.laid (o := .lst (ws.map fun l => V.str (tx l))) (t' := k) (fun b o eb => Heap.get?_push_of_some _ eb) (Nat.le_refl _) ?_, rfl, q _ _ hfr rfl⟩
  exact ⟨by rw [List.length_map]; exact hw, strValues l, 0, hv, Heap.get?_push_size _ rfl⟩⟩
/-! ### text.count(sign) -/
theorem cnt_signs (c : Nat) : ∀ l : List Nat, countIn (.str ⟨#[c]⟩) (l.map fun n => PyData.str ⟨#[n]⟩) = ((l.count c : Nat) : Int)
  | [] => rfl
  | d :: r => by
    show (if same (.str ⟨#[d]⟩) (.str ⟨#[c]⟩) then 1 else 0) + countIn (.str ⟨#[c]⟩) (r.map fun n => PyData.str ⟨#[n]⟩) = _
    rw [cnt_signs c r, List.count_cons]
    have e : same (.str ⟨#[d]⟩) (.str ⟨#[c]⟩) = (d == c) := by
      show ((⟨#[d]⟩ : Str) == (⟨#[c]⟩ : Str)) = _
      by_cases h : d = c
      · subst h; simp
      · rw [beq_eq_false_iff_ne.mpr h]
        exact beq_eq_false_iff_ne.mpr fun z => h (by injection z with z; simpa using z)
    rw [e]
    by_cases h : d = c
    · subst h; simp; omega
    · rw [beq_eq_false_iff_ne.mpr h]; simp
def rCount : V → List V → Hp → VK → Prop := fun x vs H Q => ∃ (l : List Nat) (c : Nat), x = .str (tx l) ∧ vs = [.str (tx [c])] ∧ Q (.int (l.count c : Nat)) H
theorem m_count {X : Cx} : RMt X "str.count" rCount := ⟨by
  intro pins s σ H x vs v us Q I rx rv h
  obtain ⟨l, c, rfl, rfl, q⟩ := h
  obtain ⟨t, rfl⟩ := rx
  obtain ⟨u, rfl, t2, rfl⟩ := rv.one
  refine call_gives PySem.F.slot_str_count (typeIs_str _ _ _) PySem.F.entry_str_count (PySem.F.args_str_count_2 _ _) (gives_str_count (tx l) (tx [c]) t t2) ?_
  have e : (((Builtin.Str.occurrences (tx l) (tx [c]) 0 (tx l).length ((tx l).length + 1)).length : Nat) : Int) = ((l.count c : Nat) : Int) := (count_is (tx l) c).trans (cnt_signs c l)
  rw [e]
  exact ⟨.int _, H, I.tok _, ⟨_, rfl⟩, q⟩⟩
/-! ### str(number), int(figure) -/
def rStrI : List V → Hp → VK → Prop := fun xs H Q => ∃ i : Nat, xs = [.int i] ∧ i ≤ 3 ∧ Q (.str (tx [48 + i])) H
theorem c_strI {X : Cx} : RCall X (.type "str") rStrI := ⟨by
  intro pins s σ H xs us Q I r h
  obtain ⟨i, rfl, hi, q⟩ := h
  obtain ⟨u, rfl, t, rfl⟩ := vals1 r
  have e : Str.ofString (toString (i : Int)) = tx [48 + i] := by
    rcases (show i = 0 ∨ i = 1 ∨ i = 2 ∨ i = 3 by omega) with rfl | rfl | rfl | rfl <;> decide +kernel
  have hl : (i : Int).natAbs.log2 < 1920 := by
    rcases (show i = 0 ∨ i = 1 ∨ i = 2 ∨ i = 3 by omega) with rfl | rfl | rfl | rfl <;> decide
  refine PySem.P.str_of_int hl ⟨.str (tx [48 + i]), H, I.tok _, ⟨s.toks, ?_⟩, q⟩
  rw [← e]⟩
def rIntS : List V → Hp → VK → Prop := fun xs H Q => ∃ c : Nat, xs = [.str (tx [48 + c])] ∧ c ≤ 3 ∧ Q (.int c) H
theorem c_intS {X : Cx} : RCall X (.type "int") rIntS := ⟨by
  intro pins s σ H xs us Q I r h
  obtain ⟨i, rfl, hi, q⟩ := h
  obtain ⟨u, rfl, t, rfl⟩ := vals1 r
  have e : PySem.intText? (tx [48 + i]) = some (i : Int) := by
    rcases (show i = 0 ∨ i = 1 ∨ i = 2 ∨ i = 3 by omega) with rfl | rfl | rfl | rfl <;> decide +kernel
  exact PySem.W.KIN.call_text e (by show 1 ≤ 640; decide) ⟨.int i, H, I.tok _, ⟨_, rfl⟩, q⟩⟩
/-! ### what is never reached -/
theorem qs_raise {X : Cx} {st : Stmt} : QS X st tNever := ⟨ps_never⟩
end L2

namespace L2
open PySem PySem.Spec PyProof.Rows
open AutoSeq1 (wpAny_loadPart')
/-! ### t + u, t empty: u itself -/
theorem add_none (l b : Addr) (i1 i2 : Array Value) (n1 n2 : Nat) (d1 d2 : Option Addr) (s1 s2 : Array (Option Value)) (h0 : i1.isEmpty = true) :
    Meets (Builtin.«tuple.__add__» ⟨[.ref l, .ref b], []⟩) (fun _ R s => s.heap.get? l = some { cls := .type "tuple", dict := d1, data := .seq i1 n1, slots := s1 } ∧ s.heap.get? b = some { cls := .type "tuple", dict := d2, data := .seq i2 n2, slots := s2 } ∧ R (.ok (.ret (.ref b))) s) :=
  .of_wp fun prog w A R s h => by
    obtain ⟨hp, g, d, tk, os⟩ := s
    obtain ⟨e1, e2, h⟩ := h
    have a2 := PyProof.Rows.sub_tuple_tuple
    wp_walk using wpAny_loadPart' e1, wpAny_loadPart' e2
    exact ⟨_, rfl, h⟩
def rCatA (K : PySem.W.Frag) : R2 := fun x y H Q => ∃ a b xs ys, x = .ref a ∧ y = .ref b ∧ SqT K H a xs ∧ SqT K H b ys ∧ xs.length + ys.length ≤ sizeLine ∧ ∀ p H2, Same H H2 → SqT K H2 p (xs ++ ys) → Q (.ref p) H2
theorem o_catA {X : Cx} : ROp X (binaryOp .Add) (rCatA X.K) := ⟨by
  intro pins s σ H x y v u Q I rx ry h
  obtain ⟨a, b, xs, ys, rfl, rfl, ha, hb, hz, q⟩ := h
  by_cases hx : xs = []
  · subst hx
    cases rx
    cases ry
    obtain ⟨its, r1, p1, _⟩ := I.tuple ha
    obtain ⟨its2, r2, p2, _⟩ := I.tuple hb
    have e1 : its = [] := r1.nil_iff.mpr rfl
    obtain ⟨⟨c1, d1, g1, l1⟩, f1, hc1, n1, hd1⟩ := id p1
    obtain ⟨⟨c2, d2, g2, l2⟩, f2, hc2, n2, hd2⟩ := id p2
    simp only at hc1 hd1 hc2 hd2
    subst hc1 hd1 hc2 hd2
    refine concat_meets ⟨_, f1, rfl⟩ ⟨_, f2, rfl⟩ noFill_tuple_add seq_tuple_add PySem.F.slot_tuple_add PySem.F.entry_tuple_add (PySem.F.args_tuple_add_2 _ _) (add_none a b its.toArray its2.toArray n1 n2 d1 d2 l1 l2 (by rw [e1]; rfl)) ⟨f1, f2, ?_⟩
    exact ⟨.ref b, H, I, rfl, q b H (Same.refl H) hb⟩
  · exact op_catT pins s σ H _ _ v u Q I rx ry ⟨a, b, xs, ys, rfl, rfl, ha, hb, hx, hz, fun e => q a H (Same.refl H) (by rw [e, List.append_nil]; exact ha), fun _ p hp => q p _ (same_new hp _) (SqT.of upd_same)⟩⟩
end L2
set_option Elab.async false
set_option linter.all false
set_option maxRecDepth 100000
set_option maxHeartbeats 4000000
namespace P
open PySem L2
open PyProof.Rows (boot_sorted boot_set boot_ord boot_all boot_enumerate boot_int boot_str boot_bool boot_list boot_tuple boot_isinstance boot_max boot_min)
def top (i : Nat) : Stmt := PySem.Challenge.pw_trunksay_k09_trees_written_and_read.main.body.getD i (.Pass ⟨0, 0, 0, 0⟩)
abbrev s_is_letter : Stmt := top 6
abbrev n_is_letter : List Str := ["sign"]
abbrev p_is_letter : List Str := ["sign"]
theorem sc_is_letter : FnScope n_is_letter p_is_letter (defScope s_is_letter) := ⟨rfl, rfl, rfl, by decide +kernel, rfl, by decide +kernel, by decide +kernel⟩
abbrev s_in_order : Stmt := top 7
abbrev n_in_order : List Str := ["letters"]
abbrev p_in_order : List Str := ["letters"]
theorem sc_in_order : FnScope n_in_order p_in_order (defScope s_in_order) := ⟨rfl, rfl, rfl, by decide +kernel, rfl, by decide +kernel, by decide +kernel⟩
abbrev s_is_row : Stmt := top 8
abbrev n_is_row : List Str := ["text"]
abbrev p_is_row : List Str := ["text"]
theorem sc_is_row : FnScope n_is_row p_is_row (defScope s_is_row) := ⟨rfl, rfl, rfl, by decide +kernel, rfl, by decide +kernel, by decide +kernel⟩
abbrev s_has_left : Stmt := top 11
abbrev n_has_left : List Str := ["place"]
abbrev p_has_left : List Str := ["place"]
theorem sc_has_left : FnScope n_has_left p_has_left (defScope s_has_left) := ⟨rfl, rfl, rfl, by decide +kernel, rfl, by decide +kernel, by decide +kernel⟩
abbrev s_has_right : Stmt := top 12
abbrev n_has_right : List Str := ["place"]
abbrev p_has_right : List Str := ["place"]
theorem sc_has_right : FnScope n_has_right p_has_right (defScope s_has_right) := ⟨rfl, rfl, rfl, by decide +kernel, rfl, by decide +kernel, by decide +kernel⟩
abbrev s_is_whole : Stmt := top 13
abbrev n_is_whole : List Str := ["value"]
abbrev p_is_whole : List Str := ["value"]
theorem sc_is_whole : FnScope n_is_whole p_is_whole (defScope s_is_whole) := ⟨rfl, rfl, rfl, by decide +kernel, rfl, by decide +kernel, by decide +kernel⟩
abbrev s_is_place : Stmt := top 14
abbrev n_is_place : List Str := ["place"]
abbrev p_is_place : List Str := ["place"]
theorem sc_is_place : FnScope n_is_place p_is_place (defScope s_is_place) := ⟨rfl, rfl, rfl, by decide +kernel, rfl, by decide +kernel, by decide +kernel⟩
abbrev s_is_tree : Stmt := top 15
abbrev n_is_tree : List Str := ["places", "finished", "place"]
abbrev p_is_tree : List Str := ["places"]
theorem sc_is_tree : FnScope n_is_tree p_is_tree (defScope s_is_tree) := ⟨rfl, rfl, rfl, by decide +kernel, rfl, by decide +kernel, by decide +kernel⟩
abbrev s_tree_text : Stmt := top 19
abbrev n_tree_text : List Str := ["tree"]
abbrev p_tree_text : List Str := ["tree"]
theorem sc_tree_text : FnScope n_tree_text p_tree_text (defScope s_tree_text) := ⟨rfl, rfl, rfl, by decide +kernel, rfl, by decide +kernel, by decide +kernel⟩
abbrev s_read_place : Stmt := top 20
abbrev n_read_place : List Str := ["word"]
abbrev p_read_place : List Str := ["word"]
theorem sc_read_place : FnScope n_read_place p_read_place (defScope s_read_place) := ⟨rfl, rfl, rfl, by decide +kernel, rfl, by decide +kernel, by decide +kernel⟩
abbrev s_read_tree : Stmt := top 21
abbrev n_read_tree : List Str := ["text", "tree"]
abbrev p_read_tree : List Str := ["text"]
theorem sc_read_tree : FnScope n_read_tree p_read_tree (defScope s_read_tree) := ⟨rfl, rfl, rfl, by decide +kernel, rfl, by decide +kernel, by decide +kernel⟩
abbrev s__law_cell : Stmt := top 23
abbrev n__law_cell : List Str := ["_law_script", "_law_k"]
abbrev p__law_cell : List Str := ["_law_script", "_law_k"]
theorem sc__law_cell : FnScope n__law_cell p__law_cell (defScope s__law_cell) := ⟨rfl, rfl, rfl, by decide +kernel, rfl, by decide +kernel, by decide +kernel⟩
abbrev s__law_mixed : Stmt := top 24
abbrev n__law_mixed : List Str := ["_law_cell_here", "_law_k", "_law_salt", "_law_first"]
abbrev p__law_mixed : List Str := ["_law_cell_here", "_law_k", "_law_salt"]
theorem sc__law_mixed : FnScope n__law_mixed p__law_mixed (defScope s__law_mixed) := ⟨rfl, rfl, rfl, by decide +kernel, rfl, by decide +kernel, by decide +kernel⟩
abbrev s__law_draws : Stmt := top 25
abbrev n__law_draws : List Str := ["_law_cell_here", "_law_many", "_law_salt", "_law_found", "_law_rest", "_law_k"]
abbrev p__law_draws : List Str := ["_law_cell_here", "_law_many", "_law_salt"]
theorem sc__law_draws : FnScope n__law_draws p__law_draws (defScope s__law_draws) := ⟨rfl, rfl, rfl, by decide +kernel, rfl, by decide +kernel, by decide +kernel⟩
abbrev s__law_size : Stmt := top 26
abbrev n__law_size : List Str := ["_law_cell_here", "_law_salt", "_law_most", "_law_draws_here", "_law_size_here"]
abbrev p__law_size : List Str := ["_law_cell_here", "_law_salt", "_law_most"]
theorem sc__law_size : FnScope n__law_size p__law_size (defScope s__law_size) := ⟨rfl, rfl, rfl, by decide +kernel, rfl, by decide +kernel, by decide +kernel⟩
abbrev s__law_same : Stmt := top 27
abbrev n__law_same : List Str := ["_law_found", "_law_due", "_law_k"]
abbrev p__law_same : List Str := ["_law_found", "_law_due"]
theorem sc__law_same : FnScope n__law_same p__law_same (defScope s__law_same) := ⟨rfl, rfl, rfl, by decide +kernel, rfl, by decide +kernel, by decide +kernel⟩
abbrev s__law_pool : Stmt := top 28
abbrev n__law_pool : List Str := ["_law_cell_here", "_law_many", "_law_salt", "_law_rest", "_law_found", "_law_d", "_law_at"]
abbrev p__law_pool : List Str := ["_law_cell_here", "_law_many", "_law_salt"]
theorem sc__law_pool : FnScope n__law_pool p__law_pool (defScope s__law_pool) := ⟨rfl, rfl, rfl, by decide +kernel, rfl, by decide +kernel, by decide +kernel⟩
abbrev s__law_marks : Stmt := top 29
abbrev n__law_marks : List Str := ["_law_pool_here", "_law_number"]
abbrev p__law_marks : List Str := ["_law_pool_here", "_law_number"]
theorem sc__law_marks : FnScope n__law_marks p__law_marks (defScope s__law_marks) := ⟨rfl, rfl, rfl, by decide +kernel, rfl, by decide +kernel, by decide +kernel⟩
abbrev s__law_wood : Stmt := top 30
abbrev n__law_wood : List Str := ["_law_draws_here", "_law_pool_here", "_law_most", "_law_found", "_law_high", "_law_d", "_law_branches", "_law_many"]
abbrev p__law_wood : List Str := ["_law_draws_here", "_law_pool_here", "_law_most"]
theorem sc__law_wood : FnScope n__law_wood p__law_wood (defScope s__law_wood) := ⟨rfl, rfl, rfl, by decide +kernel, rfl, by decide +kernel, by decide +kernel⟩
abbrev s__law_letters : Stmt := top 31
abbrev n__law_letters : List Str := []
abbrev p__law_letters : List Str := []
theorem sc__law_letters : FnScope n__law_letters p__law_letters (defScope s__law_letters) := ⟨rfl, rfl, rfl, by decide +kernel, rfl, by decide +kernel, by decide +kernel⟩
abbrev s__law_text : Stmt := top 32
abbrev n__law_text : List Str := ["_law_tree", "_law_found", "_law_k"]
abbrev p__law_text : List Str := ["_law_tree"]
theorem sc__law_text : FnScope n__law_text p__law_text (defScope s__law_text) := ⟨rfl, rfl, rfl, by decide +kernel, rfl, by decide +kernel, by decide +kernel⟩
abbrev s_law : Stmt := top 33
abbrev n_law : List Str := ["_law_script", "_law_pool_here", "_law_draws_here", "_law_tree", "_law_ways", "_law_at", "_law_many", "_law_marks_here", "_law_text_here"]
abbrev p_law : List Str := ["_law_script"]
theorem sc_law : FnScope n_law p_law (defScope s_law) := ⟨rfl, rfl, rfl, by decide +kernel, rfl, by decide +kernel, by decide +kernel⟩
structure Bl (mg : Str → Option Value) : Prop where
  all : mg "all" = Option.none
  bool : mg "bool" = Option.none
  int : mg "int" = Option.none
  isinstance : mg "isinstance" = Option.none
  len : mg "len" = Option.none
  range : mg "range" = Option.none
  set : mg "set" = Option.none
  sorted : mg "sorted" = Option.none
  str : mg "str" = Option.none
  tuple : mg "tuple" = Option.none
section
variable {P : Program} {w : World} {K : PySem.W.Frag} {mg : Str → Option Value} {base : Heap} {f : Addr} {fd : FuncData}
theorem lt_line {n : Nat} (h : n < 1000000) : n < sizeLine := Nat.lt_of_lt_of_le h (by decide)
theorem le_line {n : Nat} (h : n < 1000000) : n ≤ sizeLine := Nat.le_of_lt (lt_line h)
theorem cmul_l {i j : Int} (a : -(2 ^ 64) < i) (b : i < 2 ^ 64) : CMul i j := .inl ⟨a, b⟩
theorem cmul_r {i j : Int} (a : -(2 ^ 64) < j) (b : j < 2 ^ 64) : CMul i j := .inr ⟨a, b⟩
/-! ### _law_cell -/
def cellM (ns : List Int) (k : Int) : Int := if ns.length = 0 then 0 else ns.getD (k % ns.length).toNat 0
def spCell (K : PySem.W.Frag) : Sp := fun vs H Q _ => ∃ (a : Addr) (ns : List Int) (k : Int), vs = [.ref a, .int k] ∧ SqL K H a (ns.map V.int) ∧ Q (.int (cellM ns k)) H
theorem atI_cell {ns : List Int} {k : Int} (h : ns.length ≠ 0) : atI (ns.map V.int) (k % (ns.length : Int)) = some (.int (ns.getD (k % ns.length).toNat 0)) := by
  have h0 : 0 ≤ k % (ns.length : Int) := Int.emod_nonneg _ (by omega)
  have h1 : k % (ns.length : Int) < ns.length := Int.emod_lt_of_pos _ (by omega)
  have e : k % (ns.length : Int) = (((k % (ns.length : Int)).toNat : Nat) : Int) := by omega
  have hk : (k % (ns.length : Int)).toNat < ns.length := by omega
  rw [e]
  refine atI_nat ?_
  rw [Int.toNat_natCast, List.getElem?_map, List.getElem?_eq_getElem hk, List.getD_eq_getElem?_getD, List.getElem?_eq_getElem hk]
  rfl
theorem ok_cell (F : Fun K "_law_cell" "_law_cell" s__law_cell f fd) (B : Bl mg) : FnOk P w K mg base CX0 1 f fd p__law_cell (spCell K) := by
  refine F.okQ sc__law_cell (fun vs H Q E h => ?_) (fun cdv A outer s H vs Q E hr h => ?_)
  · obtain ⟨a, ns, k, rfl, _⟩ := h; rfl
  obtain ⟨a, ns, k, rfl, hS, q⟩ := h
  refine ⟨_, (qb_cons (qs_if (qt_cmp o_eq (q_callB c_len_seq B.len PySem.boot_len (qa_cons (qv 0) qa_nil)) q_int) (qb_one (qs_ret q_int)) qb_nil) (qb_one (qs_ret (q_ix i_list (qv 0) (q_op o_mod (qv 1) (q_callB c_len_seq B.len PySem.boot_len (qa_cons (qv 0) qa_nil))))))), ?_⟩
  simp only [tSortSet, tRevS, rSorted, tYes, tComp_def, cxOf, rLenQ, rLenS, rAddS, rLe1, rMax, rMin, rOrd, rInt1, tStrs, rIsi, if_true, if_false, Bool.false_eq_true, tTupF, tLstF, rAppendF, rPopF, rSetLF, rTupleOf, rListOf, rCatF, scal_ss, scal_ii, scal_bb, V_str_eq, V_int_eq, V_bl_eq, tML, tMS, tML0, rJoin, upd_same, upd_upd, HO.lst.injEq, exists_const, and_self, and_assoc, tSeq, tAsg, gName, tC, tVar, tOp, tUn, rI, rI0, rU, tTest, tB, tIfS, tRet, tRetN, tNext, tDrop, tCB, tCons, tNil, tTup, tLst, tCall, tBM, tBM0, tyV, rAppend, rPop, rEq, rNe, rIxL, rIxT, rIxS, tAnd, tOr, tNot, tAndV, tOrV, tNotV, tIf, tIsN, tNotN, tChain, tSl, tNoPart, tPart, rSlS, rInS, rCat, rCatT, gSub, rSetL, gTup, gCons, gNil, L2.start, List.map, List.length, List.replicate, List.getElem?_cons_zero, List.getElem?_cons_succ, List.set_cons_zero, List.set_cons_succ, List.cons_append, List.nil_append, List.append_nil, Option.some.injEq, exists_eq_left', V.ref.injEq, V.int.injEq, V.str.injEq, V.bl.injEq, V.ty.injEq, List.cons.injEq, and_true, true_and, exists_and_left, exists_eq_left, exists_eq', exists_eq_right, Nat.add_one_sub_one, Nat.sub_self, Nat.reduceAdd, Nat.reduceSub]
  refine ⟨_, .inl hS, ?_⟩
  rw [List.length_map]
  refine ite2 (fun c => ?_) (fun c => ?_)
  · have c : ns.length = 0 := by simpa using c
    unfold cellM at q; rw [if_pos c] at q; exact q
  · have c : ns.length ≠ 0 := by simpa using c
    unfold cellM at q; rw [if_neg c] at q
    refine ⟨_, .inl hS, ?_⟩
    rw [List.length_map]
    exact ⟨by omega, _, hS, _, atI_cell c, q⟩
/-! ### _law_mixed: some number from 0 on -/
def spMixed : Sp := fun vs H Q _ => ∃ (c k salt : Int), vs = [.int c, .int k, .int salt] ∧ 0 ≤ k ∧ k < 10000 ∧ ∀ r : Int, 0 ≤ r → Q (.int r) H
theorem ok_mixed (F : Fun K "_law_mixed" "_law_mixed" s__law_mixed f fd) : FnOk P w K mg base CX0 1 f fd p__law_mixed spMixed := by
  refine F.okQ sc__law_mixed (fun vs H Q E h => ?_) (fun cdv A outer s H vs Q E hr h => ?_)
  · obtain ⟨c, k, salt, rfl, _⟩ := h; rfl
  obtain ⟨c, k, salt, rfl, h0, h1, q⟩ := h
  refine ⟨_, (qb_cons (qs_set (i := 3) sc__law_mixed.nd rfl (Or.inl rfl) (q_op o_mod (q_op o_mul (q_op o_add (q_op o_add (q_op o_add (qv 0) (q_op o_mul (q_op o_mul q_int (qv 1)) (qv 1))) (q_op o_mul q_int (qv 1))) (qv 2)) q_int) q_int)) (qb_one (qs_ret (q_op o_mod (q_op o_mul (q_op o_mod (q_op o_add (q_op o_add (q_op o_mul (qv 3) (q_op o_add (q_op o_fdiv (qv 3) q_int) q_int)) (q_op o_mul q_int (qv 1))) (qv 2)) q_int) q_int) q_int)))), ?_⟩
  simp only [tSortSet, tRevS, rSorted, tYes, tComp_def, cxOf, rLenQ, rLenS, rAddS, rLe1, rMax, rMin, rOrd, rInt1, tStrs, rIsi, if_true, if_false, Bool.false_eq_true, tTupF, tLstF, rAppendF, rPopF, rSetLF, rTupleOf, rListOf, rCatF, scal_ss, scal_ii, scal_bb, V_str_eq, V_int_eq, V_bl_eq, tML, tMS, tML0, rJoin, upd_same, upd_upd, HO.lst.injEq, exists_const, and_self, and_assoc, tSeq, tAsg, gName, tC, tVar, tOp, tUn, rI, rI0, rU, tTest, tB, tIfS, tRet, tRetN, tNext, tDrop, tCB, tCons, tNil, tTup, tLst, tCall, tBM, tBM0, tyV, rAppend, rPop, rEq, rNe, rIxL, rIxT, rIxS, tAnd, tOr, tNot, tAndV, tOrV, tNotV, tIf, tIsN, tNotN, tChain, tSl, tNoPart, tPart, rSlS, rInS, rCat, rCatT, gSub, rSetL, gTup, gCons, gNil, L2.start, List.map, List.length, List.replicate, List.getElem?_cons_zero, List.getElem?_cons_succ, List.set_cons_zero, List.set_cons_succ, List.cons_append, List.nil_append, List.append_nil, Option.some.injEq, exists_eq_left', V.ref.injEq, V.int.injEq, V.str.injEq, V.bl.injEq, V.ty.injEq, List.cons.injEq, and_true, true_and, exists_and_left, exists_eq_left, exists_eq', exists_eq_right, Nat.add_one_sub_one, Nat.sub_self, Nat.reduceAdd, Nat.reduceSub]
  have f0 : 0 ≤ (c + 7 * k * k + 13 * k + salt) * 69621 % 2147483647 := Int.emod_nonneg _ (by decide)
  have f1 : (c + 7 * k * k + 13 * k + salt) * 69621 % 2147483647 < 2147483647 := Int.emod_lt_of_pos _ (by decide)
  refine ⟨cmul_l (by decide) (by decide), cmul_r (by omega) (by omega), cmul_l (by decide) (by decide), cmul_r (by decide) (by decide), by decide, ⟨by decide, by decide⟩, cmul_l (by omega) (by omega), cmul_l (by decide) (by decide), by decide, cmul_r (by decide) (by decide), by decide, ?_⟩
  exact q _ (Int.emod_nonneg _ (by decide))
/-! ### _law_draws: numbers from 0 on, as many as asked -/
def spDraws : Sp := fun vs H Q _ => ∃ (c n salt : Int), vs = [.int c, .int n, .int salt] ∧ 0 ≤ n ∧ n ≤ 1000 ∧ ∀ ds : List Int, ds.length = n.toNat → (∀ d ∈ ds, 0 ≤ d) → ∀ l, H l = none → Q (.ref l) (upd H l (.lst (ds.map V.int)))
theorem ok_draws (F : Fun K "_law_draws" "_law_draws" s__law_draws f fd) (B : Bl mg) (h__law_mixed : Has P w K mg base 1 "_law_mixed" p__law_mixed spMixed) : FnOk P w K mg base CX0 2 f fd p__law_draws spDraws := by
  refine F.okQ sc__law_draws (fun vs H Q E h => ?_) (fun cdv A outer s H vs Q E hr h => ?_)
  · obtain ⟨c, n, salt, rfl, _⟩ := h; rfl
  obtain ⟨c, n, salt, rfl, h0, h1, q⟩ := h
  refine ⟨_, (qb_cons (qs_set (i := 3) sc__law_draws.nd rfl (Or.inl rfl) (q_lst qa_nil)) (qb_cons (qs_set (i := 4) sc__law_draws.nd rfl (Or.inl rfl) q_int) (qb_cons (qs_if (qt_cmp o_ge (qv 0) (q_op o_pow q_int q_int)) (qb_one (qs_set (i := 4) sc__law_draws.nd rfl (Or.inl rfl) (qv 0))) qb_nil) (qb_cons (qs_for PassesOwn.never rfl (qi_range1 B.range (qa_cons (qv 1) qa_nil)) (qg_name (i := 5) sc__law_draws.nd rfl (Or.inl rfl)) (qb_one (qs_if (qt_cmp o_gt (qv 4) q_int) (qb_cons (qs_expr (q_ml PySem.F.slot_list_append PySem.F.type_list_append m_append (qv 3) (qa_cons (q_op o_mod (qv 4) q_int) qa_nil))) (qb_one (qs_set (i := 4) sc__law_draws.nd rfl (Or.inl rfl) (q_op o_fdiv (qv 4) q_int)))) (qb_one (qs_expr (q_ml PySem.F.slot_list_append PySem.F.type_list_append m_append (qv 3) (qa_cons (q_has h__law_mixed hr (by omega) (qa_cons (qv 0) (qa_cons (qv 5) (qa_cons (qv 2) qa_nil)))) qa_nil))))))) (qb_one (qs_ret (qv 3))))))), ?_⟩
  simp only [tSortSet, tRevS, rSorted, tYes, tComp_def, cxOf, rLenQ, rLenS, rAddS, rLe1, rMax, rMin, rOrd, rInt1, tStrs, rIsi, if_true, if_false, Bool.false_eq_true, tTupF, tLstF, rAppendF, rPopF, rSetLF, rTupleOf, rListOf, rCatF, scal_ss, scal_ii, scal_bb, V_str_eq, V_int_eq, V_bl_eq, tML, tMS, tML0, rJoin, upd_same, upd_upd, HO.lst.injEq, exists_const, and_self, and_assoc, tSeq, tAsg, gName, tC, tVar, tOp, tUn, rI, rI0, rU, tTest, tB, tIfS, tRet, tRetN, tNext, tDrop, tCB, tCons, tNil, tTup, tLst, tCall, tBM, tBM0, tyV, rAppend, rPop, rEq, rNe, rIxL, rIxT, rIxS, tAnd, tOr, tNot, tAndV, tOrV, tNotV, tIf, tIsN, tNotN, tChain, tSl, tNoPart, tPart, rSlS, rInS, rCat, rCatT, gSub, rSetL, gTup, gCons, gNil, L2.start, List.map, List.length, List.replicate, List.getElem?_cons_zero, List.getElem?_cons_succ, List.set_cons_zero, List.set_cons_succ, List.cons_append, List.nil_append, List.append_nil, Option.some.injEq, exists_eq_left', V.ref.injEq, V.int.injEq, V.str.injEq, V.bl.injEq, V.ty.injEq, List.cons.injEq, and_true, true_and, exists_and_left, exists_eq_left, exists_eq', exists_eq_right, Nat.add_one_sub_one, Nat.sub_self, Nat.reduceAdd, Nat.reduceSub]
  refine ⟨Nat.zero_le _, fun l H1 hl e1 => ?_⟩
  subst e1
  refine ⟨⟨by decide, by decide, by decide⟩, ?_⟩
  refine ite2 (fun cc => ?_) (fun cc => ?_)
  all_goals
    refine ⟨_, rfl, n, rfl, by omega, by omega, for_range (fun i σ H' => ∃ (ds : List Int) (r : Int) (o : Option V), σ = [some (.int c), some (.int n), some (.int salt), some (.ref l), some (.int r), o] ∧ H' = upd H l (.lst (ds.map V.int)) ∧ ds.length = i ∧ (∀ d ∈ ds, 0 ≤ d) ∧ 0 ≤ r) ⟨[], _, none, rfl, rfl, rfl, by simp, by simp at cc; omega⟩ ?_ ?_⟩
    · rintro i σ H' hi ⟨ds, r, o, rfl, rfl, hd, ha, hr0⟩
      simp only [tSortSet, tRevS, rSorted, tYes, tComp_def, cxOf, rLenQ, rLenS, rAddS, rLe1, rMax, rMin, rOrd, rInt1, tStrs, rIsi, if_true, if_false, Bool.false_eq_true, tTupF, tLstF, rAppendF, rPopF, rSetLF, rTupleOf, rListOf, rCatF, scal_ss, scal_ii, scal_bb, V_str_eq, V_int_eq, V_bl_eq, tML, tMS, tML0, rJoin, upd_same, upd_upd, HO.lst.injEq, exists_const, and_self, and_assoc, tSeq, tAsg, gName, tC, tVar, tOp, tUn, rI, rI0, rU, tTest, tB, tIfS, tRet, tRetN, tNext, tDrop, tCB, tCons, tNil, tTup, tLst, tCall, tBM, tBM0, tyV, rAppend, rPop, rEq, rNe, rIxL, rIxT, rIxS, tAnd, tOr, tNot, tAndV, tOrV, tNotV, tIf, tIsN, tNotN, tChain, tSl, tNoPart, tPart, rSlS, rInS, rCat, rCatT, gSub, rSetL, gTup, gCons, gNil, L2.start, List.map, List.length, List.replicate, List.getElem?_cons_zero, List.getElem?_cons_succ, List.set_cons_zero, List.set_cons_succ, List.cons_append, List.nil_append, List.append_nil, Option.some.injEq, exists_eq_left', V.ref.injEq, V.int.injEq, V.str.injEq, V.bl.injEq, V.ty.injEq, List.cons.injEq, and_true, true_and, exists_and_left, exists_eq_left, exists_eq', exists_eq_right, Nat.add_one_sub_one, Nat.sub_self, Nat.reduceAdd, Nat.reduceSub, spMixed]
      refine ite2 (fun cc => ?_) (fun cc => ?_)
      · have cc : 0 < r := by simpa using cc
        refine ⟨by decide, by rw [List.length_map]; exact lt_line (by omega), fun H2 e2 => ⟨⟨by decide, by decide⟩, ds ++ [r % 64], by rw [e2, List.map_append]; rfl, by simp; omega, fun d hd' => ?_, Int.ediv_nonneg hr0 (by decide)⟩⟩
        rcases List.mem_append.mp hd' with z | z
        · exact ha d z
        · rw [List.mem_singleton] at z; rw [z]; exact Int.emod_nonneg _ (by decide)
      · refine ⟨by omega, by omega, fun v hv => ⟨by rw [List.length_map]; exact lt_line (by omega), fun H2 e2 => ⟨ds ++ [v], by rw [e2, List.map_append]; rfl, by simp; omega, fun d hd' => ?_, hr0⟩⟩⟩
        rcases List.mem_append.mp hd' with z | z
        · exact ha d z
        · rw [List.mem_singleton] at z; rw [z]; exact hv
    · rintro σ H' ⟨ds, r, o, rfl, rfl, hd, ha, hr0⟩
      exact ⟨_, rfl, q ds (by omega) ha l hl⟩
def abc : List Nat := (List.range 26).map (65 + ·) ++ (List.range 26).map (97 + ·)
theorem tx_lit : Str.ofString "ABCDEFGHIJKLMNOPQRSTUVWXYZabcdefghijklmnopqrstuvwxyz" = tx abc := by decide +kernel
abbrev isL (c : Nat) : Prop := (65 ≤ c ∧ c ≤ 90) ∨ (97 ≤ c ∧ c ≤ 122)
theorem mem_abc (c : Nat) : c ∈ abc ↔ isL c := by
  unfold abc isL
  simp only [List.mem_append, List.mem_map, List.mem_range]
  constructor
  · rintro (⟨i, h, rfl⟩ | ⟨i, h, rfl⟩)
    · exact .inl (by omega)
    · exact .inr (by omega)
  · rintro (h | h)
    · exact .inl ⟨c - 65, by omega, by omega⟩
    · exact .inr ⟨c - 97, by omega, by omega⟩
theorem abc_len : abc.length = 52 := by decide
theorem tx_nil : Str.ofString "" = tx [] := by decide +kernel
theorem atI_tx {l : List Nat} {k : Int} (h : l.length ≠ 0) : ∃ c, atI l (k % (l.length : Int)) = some c := by
  have h0 : 0 ≤ k % (l.length : Int) := Int.emod_nonneg _ (by omega)
  have h1 : k % (l.length : Int) < l.length := Int.emod_lt_of_pos _ (by omega)
  have e : k % (l.length : Int) = (((k % (l.length : Int)).toNat : Nat) : Int) := by omega
  have hk : (k % (l.length : Int)).toNat < l.length := by omega
  exact ⟨_, by rw [e]; exact atI_nat (List.getElem?_eq_getElem hk)⟩
/-! ### _law_size -/
def spSize : Sp := fun vs H Q _ => ∃ (c salt most : Int), vs = [.int c, .int salt, .int most] ∧ 0 ≤ most ∧ most ≤ 1000 ∧ ∀ r : Int, 0 ≤ r → r ≤ most → ∀ H', Same H H' → Q (.int r) H'
theorem atI_int {ds : List Int} {k : Nat} (h : k < ds.length) : atI (ds.map V.int) (k : Int) = some (.int ds[k]) := atI_nat (by rw [List.getElem?_map, List.getElem?_eq_getElem h]; rfl)
theorem ok_size (F : Fun K "_law_size" "_law_size" s__law_size f fd) (B : Bl mg) (h__law_draws : Has P w K mg base 2 "_law_draws" p__law_draws spDraws) : FnOk P w K mg base CX0 3 f fd p__law_size spSize := by
  refine F.okQ sc__law_size (fun vs H Q E h => ?_) (fun cdv A outer s H vs Q E hr h => ?_)
  · obtain ⟨c, salt, most, rfl, _⟩ := h; rfl
  obtain ⟨c, salt, most, rfl, h0, h1, q⟩ := h
  refine ⟨_, (qb_cons (qs_set (i := 3) sc__law_size.nd rfl (Or.inl rfl) (q_has h__law_draws hr (by omega) (qa_cons (qv 0) (qa_cons q_int (qa_cons (qv 1) qa_nil))))) (qb_cons (qs_set (i := 4) sc__law_size.nd rfl (Or.inl rfl) (q_op o_mod (q_op o_add (q_ix i_list (qv 3) q_int) (q_op o_mul q_int (q_ix i_list (qv 3) q_int))) (q_op o_add (qv 2) q_int))) (qb_cons (qs_if (qt_cmp o_eq (q_op o_mod (q_ix i_list (qv 3) q_int) q_int) q_int) (qb_one (qs_ret (q_op o_mod (qv 4) q_int))) qb_nil) (qb_one (qs_ret (qv 4)))))), ?_⟩
  simp only [tSortSet, tRevS, rSorted, tYes, tComp_def, cxOf, rLenQ, rLenS, rAddS, rLe1, rMax, rMin, rOrd, rInt1, tStrs, rIsi, if_true, if_false, Bool.false_eq_true, tTupF, tLstF, rAppendF, rPopF, rSetLF, rTupleOf, rListOf, rCatF, scal_ss, scal_ii, scal_bb, V_str_eq, V_int_eq, V_bl_eq, tML, tMS, tML0, rJoin, upd_same, upd_upd, HO.lst.injEq, exists_const, and_self, and_assoc, tSeq, tAsg, gName, tC, tVar, tOp, tUn, rI, rI0, rU, tTest, tB, tIfS, tRet, tRetN, tNext, tDrop, tCB, tCons, tNil, tTup, tLst, tCall, tBM, tBM0, tyV, rAppend, rPop, rEq, rNe, rIxL, rIxT, rIxS, tAnd, tOr, tNot, tAndV, tOrV, tNotV, tIf, tIsN, tNotN, tChain, tSl, tNoPart, tPart, rSlS, rInS, rCat, rCatT, gSub, rSetL, gTup, gCons, gNil, L2.start, List.map, List.length, List.replicate, List.getElem?_cons_zero, List.getElem?_cons_succ, List.set_cons_zero, List.set_cons_succ, List.cons_append, List.nil_append, List.append_nil, Option.some.injEq, exists_eq_left', V.ref.injEq, V.int.injEq, V.str.injEq, V.bl.injEq, V.ty.injEq, List.cons.injEq, and_true, true_and, exists_and_left, exists_eq_left, exists_eq', exists_eq_right, Nat.add_one_sub_one, Nat.sub_self, Nat.reduceAdd, Nat.reduceSub, spDraws]
  refine ⟨by decide, by decide, fun ds hd ha l hl => ?_⟩
  have hl3 : ds.length = 3 := hd
  have hS : SqL K (upd H l (.lst (ds.map V.int))) l (ds.map V.int) := .of upd_same
  have a0 : atI (ds.map V.int) 0 = some (.int ds[0]) := atI_int (k := 0) (by omega)
  have a1 : atI (ds.map V.int) 1 = some (.int ds[1]) := atI_int (k := 1) (by omega)
  have a2 : atI (ds.map V.int) 2 = some (.int ds[2]) := atI_int (k := 2) (by omega)
  refine ⟨_, hS, _, a0, _, hS, _, a1, _, rfl, cmul_l (by decide) (by decide), _, rfl, by omega, _, hS, _, a2, _, rfl, by decide, ?_⟩
  have z0 : 0 ≤ (ds[0] + 64 * ds[1]) % (most + 1) := Int.emod_nonneg _ (by omega)
  have z1 : (ds[0] + 64 * ds[1]) % (most + 1) < most + 1 := Int.emod_lt_of_pos _ (by omega)
  generalize (ds[0] + 64 * ds[1]) % (most + 1) = z at z0 z1
  refine ite2 (fun cc => ?_) (fun cc => ?_)
  · exact ⟨by decide, q _ (Int.emod_nonneg _ (by decide)) (by omega) _ (same_new hl _)⟩
  · exact q _ z0 (by omega) _ (same_new hl _)
/-! ### _law_pool: letters, none twice -/
theorem abc_nd : abc.Nodup := by decide +kernel
theorem pool_nd {rest found : List Nat} (h : (rest ++ found).Perm abc) : found.Nodup := (List.nodup_append.mp (h.nodup_iff.mpr abc_nd)).2.1
theorem cut_perm {l : List Nat} {k : Int} {c : Nat} (h : l.length ≠ 0) (e : atI l (k % (l.length : Int)) = some c) : (c :: (l.take (k % (l.length : Int)).toNat ++ l.drop (k % (l.length : Int) + 1).toNat)).Perm l := by
  have h0 : 0 ≤ k % (l.length : Int) := Int.emod_nonneg _ (by omega)
  have h1 : k % (l.length : Int) < l.length := Int.emod_lt_of_pos _ (by omega)
  have e1 : k % (l.length : Int) = (((k % (l.length : Int)).toNat : Nat) : Int) := by omega
  have hk : (k % (l.length : Int)).toNat < l.length := by omega
  have e2 : (k % (l.length : Int) + 1).toNat = (k % (l.length : Int)).toNat + 1 := by omega
  rw [e2]
  generalize (k % (l.length : Int)).toNat = j at e1 hk
  rw [e1, atI_nat (List.getElem?_eq_getElem hk)] at e
  cases e
  have s : l.take j ++ l[j] :: l.drop (j + 1) = l := by rw [← List.drop_eq_getElem_cons hk, List.take_append_drop]
  conv => rhs; rw [← s]
  exact List.perm_middle.symm
theorem cut_app (l r : List Nat) (c : Nat) {m : List Nat} (h : (c :: l).Perm m) : (l ++ (r ++ [c])).Perm (m ++ r) := by
  refine List.Perm.trans ?_ (h.append_right r)
  refine List.Perm.trans (List.perm_append_comm) ?_
  rw [List.append_assoc, List.cons_append]
  refine List.Perm.trans (List.perm_middle (l₁ := r) (a := c) (l₂ := l)) ?_
  exact List.Perm.cons c List.perm_append_comm
def spPool : Sp := fun vs H Q _ => ∃ (c n salt : Int), vs = [.int c, .int n, .int salt] ∧ 0 ≤ n ∧ n ≤ 52 ∧ ∀ l : List Nat, l.length = n.toNat → l.Nodup → (∀ c ∈ l, isL c) → ∀ H', Same H H' → Q (.str (tx l)) H'
theorem ok_pool (F : Fun K "_law_pool" "_law_pool" s__law_pool f fd) (B : Bl mg) (h__law_draws : Has P w K mg base 2 "_law_draws" p__law_draws spDraws) : FnOk P w K mg base CX0 3 f fd p__law_pool spPool := by
  refine F.okQ sc__law_pool (fun vs H Q E h => ?_) (fun cdv A outer s H vs Q E hr h => ?_)
  · obtain ⟨c, n, salt, rfl, _⟩ := h; rfl
  obtain ⟨c, n, salt, rfl, h0, h1, q⟩ := h
  refine ⟨_, (qb_cons (qs_set (i := 3) sc__law_pool.nd rfl (Or.inl rfl) q_str) (qb_cons (qs_set (i := 4) sc__law_pool.nd rfl (Or.inl rfl) q_str) (qb_cons (qs_for PassesOwn.never rfl (qi_list (q_has h__law_draws hr (by omega) (qa_cons (qv 0) (qa_cons (qv 1) (qa_cons (qv 2) qa_nil))))) (qg_name (i := 5) sc__law_pool.nd rfl (Or.inl rfl)) (qb_cons (qs_set (i := 6) sc__law_pool.nd rfl (Or.inl rfl) (q_op o_mod (qv 5) (q_callB c_len_str B.len PySem.boot_len (qa_cons (qv 3) qa_nil)))) (qb_cons (qs_set (i := 4) sc__law_pool.nd rfl (Or.inl rfl) (q_op o_add_str (qv 4) (q_ix i_str (qv 3) (qv 6)))) (qb_one (qs_set (i := 3) sc__law_pool.nd rfl (Or.inl rfl) (q_op o_add_str (q_slice l_str (qv 3) qo_none (qo_some (qv 6))) (q_slice l_str (qv 3) (qo_some (q_op o_add (qv 6) q_int)) qo_none))))))) (qb_one (qs_ret (qv 4)))))), ?_⟩
  simp only [tSortSet, tRevS, rSorted, tYes, tComp_def, cxOf, rLenQ, rLenS, rAddS, rLe1, rMax, rMin, rOrd, rInt1, tStrs, rIsi, if_true, if_false, Bool.false_eq_true, tTupF, tLstF, rAppendF, rPopF, rSetLF, rTupleOf, rListOf, rCatF, scal_ss, scal_ii, scal_bb, V_str_eq, V_int_eq, V_bl_eq, tML, tMS, tML0, rJoin, upd_same, upd_upd, HO.lst.injEq, exists_const, and_self, and_assoc, tSeq, tAsg, gName, tC, tVar, tOp, tUn, rI, rI0, rU, tTest, tB, tIfS, tRet, tRetN, tNext, tDrop, tCB, tCons, tNil, tTup, tLst, tCall, tBM, tBM0, tyV, rAppend, rPop, rEq, rNe, rIxL, rIxT, rIxS, tAnd, tOr, tNot, tAndV, tOrV, tNotV, tIf, tIsN, tNotN, tChain, tSl, tNoPart, tPart, rSlS, rInS, rCat, rCatT, gSub, rSetL, gTup, gCons, gNil, L2.start, List.map, List.length, List.replicate, List.getElem?_cons_zero, List.getElem?_cons_succ, List.set_cons_zero, List.set_cons_succ, List.cons_append, List.nil_append, List.append_nil, Option.some.injEq, exists_eq_left', V.ref.injEq, V.int.injEq, V.str.injEq, V.bl.injEq, V.ty.injEq, List.cons.injEq, and_true, true_and, exists_and_left, exists_eq_left, exists_eq', exists_eq_right, Nat.add_one_sub_one, Nat.sub_self, Nat.reduceAdd, Nat.reduceSub, spDraws]
  refine ⟨_, rfl, _, rfl, _, rfl, c, n, salt, rfl, by omega, by omega, fun ds hd ha l hl => ⟨l, rfl, ⟨_, .of upd_same⟩, ?_⟩⟩
  refine for_list (xs := ds.map V.int) (fun i σ H' => ∃ (rest found : List Nat) (o p : Option V), σ = [some (.int c), some (.int n), some (.int salt), some (.str (tx rest)), some (.str (tx found)), o, p] ∧ H' = upd H l (.lst (ds.map V.int)) ∧ found.length = i ∧ rest.length + i = 52 ∧ (rest ++ found).Perm abc)
    ⟨_, [], none, none, by rw [tx_lit, tx_nil], rfl, rfl, by decide, by rw [List.append_nil]⟩ (fun i σ H' _ ⟨_, _, _, _, _, e, _⟩ => by rw [e]; exact .of upd_same) ?_ ?_
  · rintro i x σ H' hx ⟨rest, found, o, p, rfl, rfl, hf, hr', hpm⟩
    have hi : i < ds.length := by
      have := List.getElem?_eq_some_iff.mp hx
      obtain ⟨z, _⟩ := this
      simpa using z
    obtain ⟨d, rfl⟩ : ∃ d, x = V.int d := by
      rw [List.getElem?_map] at hx
      cases e : ds[i]? with
      | none => rw [e] at hx; cases hx
      | some d => rw [e] at hx; exact ⟨d, (Option.some.inj hx).symm⟩
    have hn : rest.length ≠ 0 := by omega
    obtain ⟨sg, hsg⟩ := atI_tx (k := d) hn
    have cut := cut_perm hn hsg
    have a0 : 0 ≤ d % (rest.length : Int) := Int.emod_nonneg _ (by omega)
    have a1 : d % (rest.length : Int) < rest.length := Int.emod_lt_of_pos _ (by omega)
    simp only [tSortSet, tRevS, rSorted, tYes, tComp_def, cxOf, rLenQ, rLenS, rAddS, rLe1, rMax, rMin, rOrd, rInt1, tStrs, rIsi, if_true, if_false, Bool.false_eq_true, tTupF, tLstF, rAppendF, rPopF, rSetLF, rTupleOf, rListOf, rCatF, scal_ss, scal_ii, scal_bb, V_str_eq, V_int_eq, V_bl_eq, tML, tMS, tML0, rJoin, upd_same, upd_upd, HO.lst.injEq, exists_const, and_self, and_assoc, tSeq, tAsg, gName, tC, tVar, tOp, tUn, rI, rI0, rU, tTest, tB, tIfS, tRet, tRetN, tNext, tDrop, tCB, tCons, tNil, tTup, tLst, tCall, tBM, tBM0, tyV, rAppend, rPop, rEq, rNe, rIxL, rIxT, rIxS, tAnd, tOr, tNot, tAndV, tOrV, tNotV, tIf, tIsN, tNotN, tChain, tSl, tNoPart, tPart, rSlS, rInS, rCat, rCatT, gSub, rSetL, gTup, gCons, gNil, L2.start, List.map, List.length, List.replicate, List.getElem?_cons_zero, List.getElem?_cons_succ, List.set_cons_zero, List.set_cons_succ, List.cons_append, List.nil_append, List.append_nil, Option.some.injEq, exists_eq_left', V.ref.injEq, V.int.injEq, V.str.injEq, V.bl.injEq, V.ty.injEq, List.cons.injEq, and_true, true_and, exists_and_left, exists_eq_left, exists_eq', exists_eq_right, Nat.add_one_sub_one, Nat.sub_self, Nat.reduceAdd, Nat.reduceSub, tx_len, tx_cps, tx_one, tx_app, tx_inj, hsg]
    rw [cutN_upto a0, cutN_from (by omega)]
    have l1 : (rest.take (d % (rest.length : Int)).toNat).length = (d % (rest.length : Int)).toNat := by rw [List.length_take]; omega
    have l2 : (rest.drop (d % (rest.length : Int) + 1).toNat).length = rest.length - (d % (rest.length : Int) + 1).toNat := by rw [List.length_drop]
    rw [List.length_append, List.length_append, l1, l2]
    refine ⟨le_line (by omega), by omega, le_line (by omega), le_line (by omega), le_line (by omega), le_line (by omega), le_line (by omega), by simp; omega, by omega, ?_⟩
    exact (cut_app _ _ _ cut).trans hpm
  · rintro σ H' ⟨rest, found, o, p, rfl, rfl, hf, hr', hpm⟩
    exact ⟨_, rfl, q found (by simpa [hd] using hf) (pool_nd hpm) (fun c hc => (mem_abc c).mp (hpm.mem_iff.mp (List.mem_append_right _ hc))) _ (same_new hl _)⟩
end
end P
set_option Elab.async false
set_option linter.all false
set_option maxRecDepth 100000
set_option maxHeartbeats 4000000
namespace P
open PySem L2
open PyProof.Rows (boot_sorted boot_set boot_ord boot_all boot_enumerate boot_int boot_str boot_bool boot_list boot_tuple boot_isinstance boot_max boot_min)
section
variable {P : Program} {w : World} {K : PySem.W.Frag} {mg : Str → Option Value} {base : Heap} {f : Addr} {fd : FuncData}
/-! ### _law_marks: some signs -/
def spMarks : Sp := fun vs H Q _ => ∃ (pl : List Nat) (n : Int), vs = [.str (tx pl), .int n] ∧ pl.length ≤ 52 ∧ 0 ≤ n ∧ ∀ m m0 : List Nat, m0.Sublist pl → m.Perm m0 → m.Pairwise (· ≤ ·) → ∀ H', Same H H' → Q (.str (tx m)) H'
theorem ok_marks (F : Fun K "_law_marks" "_law_marks" s__law_marks f fd) (B : Bl mg) : FnOk P w K mg base CX0 1 f fd p__law_marks spMarks := by
  refine F.okQ sc__law_marks (fun vs H Q E h => ?_) (fun cdv A outer s H vs Q E hr h => ?_)
  · obtain ⟨pl, n, rfl, _⟩ := h; rfl
  obtain ⟨pl, n, rfl, h0, h1, q⟩ := h
  refine ⟨_, (qb_one (qs_ret (q_ms PySem.F.slot_str_join PySem.F.type_str_join m_join q_str (qa_cons (q_callB c_sorted_strs B.sorted boot_sorted (qa_cons (q_comp (nm := ["_law_k", "_law_pool_here", "_law_number"]) (cap := [none, some 0, some 1]) rfl rfl rfl (by first | rfl | kernel_rfl) (qi_range1 B.range (qa_cons (q_callB c_len_str B.len PySem.boot_len (qa_cons (qv 0) qa_nil)) qa_nil)) (fun _ _ _ _ _ => (qg_name (i := 0) (show List.Nodup (["_law_k", "_law_pool_here", "_law_number"] : List Str) from by decide +kernel) rfl (Or.inl rfl))) (fun _ _ _ _ _ => (qts_one (qt_cmp o_eq (q_op o_and (q_op o_shr (qv 2) (qv 0)) q_int) q_int))) (fun _ _ _ _ _ => (q_ix i_str (qv 1) (qv 0)))) qa_nil)) qa_nil)))), ?_⟩
  simp only [tSortSet, tRevS, rSorted, tYes, tComp_def, cxOf, rLenQ, rLenS, rAddS, rLe1, rMax, rMin, rOrd, rInt1, tStrs, rIsi, if_true, if_false, Bool.false_eq_true, tTupF, tLstF, rAppendF, rPopF, rSetLF, rTupleOf, rListOf, rCatF, scal_ss, scal_ii, scal_bb, V_str_eq, V_int_eq, V_bl_eq, tML, tMS, tML0, rJoin, upd_same, upd_upd, HO.lst.injEq, exists_const, and_self, and_assoc, tSeq, tAsg, gName, tC, tVar, tOp, tUn, rI, rI0, rU, tTest, tB, tIfS, tRet, tRetN, tNext, tDrop, tCB, tCons, tNil, tTup, tLst, tCall, tBM, tBM0, tyV, rAppend, rPop, rEq, rNe, rIxL, rIxT, rIxS, tAnd, tOr, tNot, tAndV, tOrV, tNotV, tIf, tIsN, tNotN, tChain, tSl, tNoPart, tPart, rSlS, rInS, rCat, rCatT, gSub, rSetL, gTup, gCons, gNil, L2.start, List.map, List.length, List.replicate, List.getElem?_cons_zero, List.getElem?_cons_succ, List.set_cons_zero, List.set_cons_succ, List.cons_append, List.nil_append, List.append_nil, Option.some.injEq, exists_eq_left', V.ref.injEq, V.int.injEq, V.str.injEq, V.bl.injEq, V.ty.injEq, List.cons.injEq, and_true, true_and, exists_and_left, exists_eq_left, exists_eq', exists_eq_right, Nat.add_one_sub_one, Nat.sub_self, Nat.reduceAdd, Nat.reduceSub]
  refine ⟨⟨[], tx_nil⟩, ?_⟩
  refine ⟨_, rfl, tx pl, rfl, by rw [tx_len]; exact le_line (by omega), _, rfl, by omega, by rw [tx_len]; omega, comp_range ?_ (fun i ys H' => H' = H ∧ ∃ m : List Nat, ys = m.map (fun c => V.str (tx [c])) ∧ m.Sublist (pl.take i)) ⟨rfl, [], rfl, List.nil_sublist _⟩ ?_ ?_⟩
  · show Int.toNat ((tx pl).length : Int) ≤ _
    rw [tx_len]; exact le_line (by omega)
  · rintro i ys H' hi hl ⟨rfl, m, rfl, hm⟩
    rw [tx_len] at hi
    have hi : i < pl.length := by omega
    simp only [tSortSet, tRevS, rSorted, tYes, tComp_def, cxOf, rLenQ, rLenS, rAddS, rLe1, rMax, rMin, rOrd, rInt1, tStrs, rIsi, if_true, if_false, Bool.false_eq_true, tTupF, tLstF, rAppendF, rPopF, rSetLF, rTupleOf, rListOf, rCatF, scal_ss, scal_ii, scal_bb, V_str_eq, V_int_eq, V_bl_eq, tML, tMS, tML0, rJoin, upd_same, upd_upd, HO.lst.injEq, exists_const, and_self, and_assoc, tSeq, tAsg, gName, tC, tVar, tOp, tUn, rI, rI0, rU, tTest, tB, tIfS, tRet, tRetN, tNext, tDrop, tCB, tCons, tNil, tTup, tLst, tCall, tBM, tBM0, tyV, rAppend, rPop, rEq, rNe, rIxL, rIxT, rIxS, tAnd, tOr, tNot, tAndV, tOrV, tNotV, tIf, tIsN, tNotN, tChain, tSl, tNoPart, tPart, rSlS, rInS, rCat, rCatT, gSub, rSetL, gTup, gCons, gNil, L2.start, List.map, List.length, List.replicate, List.getElem?_cons_zero, List.getElem?_cons_succ, List.set_cons_zero, List.set_cons_succ, List.cons_append, List.nil_append, List.append_nil, Option.some.injEq, exists_eq_left', V.ref.injEq, V.int.injEq, V.str.injEq, V.bl.injEq, V.ty.injEq, List.cons.injEq, and_true, true_and, exists_and_left, exists_eq_left, exists_eq', exists_eq_right, Nat.add_one_sub_one, Nat.sub_self, Nat.reduceAdd, Nat.reduceSub, capSt, Option.bind, Option.join, tx_len, tx_cps, tx_one]
    refine ⟨_, rfl, _, rfl, by omega, ?_⟩
    have e0 : (0 + (i : Int)) = (i : Int) := by omega
    rw [e0]
    have up : (pl.take i).Sublist (pl.take (i + 1)) := by rw [List.take_add_one]; exact List.sublist_append_left _ _
    refine ite2 (fun c => ?_) (fun c => ?_)
    · refine ⟨_, rfl, _, rfl, by rw [tx_len]; exact le_line (by omega), pl[i], by rw [tx_cps]; exact atI_nat (List.getElem?_eq_getElem hi), m ++ [pl[i]], by rw [List.map_append]; rfl, ?_⟩
      rw [List.take_add_one, List.getElem?_eq_getElem hi]
      exact List.Sublist.append hm (List.Sublist.refl _)
    · exact ⟨m, rfl, hm.trans up⟩
  · rintro ys H2 hl ⟨rfl, m, rfl, hm⟩ p H3 hp rfl
    have hmp : m.Sublist pl := hm.trans (List.take_sublist _ _)
    have hml := hmp.length_le
    refine ⟨p, rfl, m.map fun c => [c], by rw [List.map_map]; exact .of upd_same, by rw [List.length_map]; omega, fun zs hz hs l H4 hl4 e4 => ?_⟩
    obtain ⟨m', rfl, hp'⟩ := ones_perm hz
    have hlm := hp'.length_eq
    refine ⟨[], tx_nil, m'.map fun c => [c], by rw [e4]; exact .of upd_same, by rw [ones_lens]; simp only [List.length_nil, Nat.mul_zero]; omega, ?_⟩
    rw [joinN_nil, ones_flat]
    exact q m' m hmp hp' (ones_sorted m' hs) _ (by rw [e4]; exact (same_new hp _).trans (same_new hl4 _))
end
/-! ### trees: places by branches and marks -/
def need (b : Nat) : Nat := (b + 1) / 2
inductive Wf : List Nat → Nat → Prop where
  | nil : Wf [] 0
  | snoc {bs : List Nat} {h b : Nat} : Wf bs h → b ≤ 3 → need b ≤ h → Wf (bs ++ [b]) (h + 1 - need b)
theorem Wf.le {bs : List Nat} {h : Nat} (w : Wf bs h) : h ≤ bs.length := by
  induction w with
  | nil => exact Nat.le_refl _
  | snoc _ _ _ ih => rw [List.length_append]; simp; omega
theorem Wf.pos {bs : List Nat} {h : Nat} (w : Wf bs h) (hb : bs ≠ []) : 1 ≤ h := by
  cases w with
  | nil => exact absurd rfl hb
  | snoc _ _ h3 => omega
abbrev Pl := Nat × List Nat
def PlAt (K : PySem.W.Frag) (H : Hp) (p : Pl) (v : V) : Prop := ∃ q, v = .ref q ∧ SqT K H q [.int p.1, .str (tx p.2)]
def TrAt (K : PySem.W.Frag) (H : Hp) (T : List Pl) (v : V) : Prop := ∃ a vs, v = .ref a ∧ SqT K H a vs ∧ Paired (PlAt K H) T vs
theorem PlAt.mono {K : PySem.W.Frag} {H H' : Hp} (e : Ext K H H') {p : Pl} {v : V} (h : PlAt K H p v) : PlAt K H' p v := let ⟨q, a, b⟩ := h; ⟨q, a, e _ _ b⟩
theorem PlAts.mono {K : PySem.W.Frag} {H H' : Hp} (e : Ext K H H') {T : List Pl} {vs : List V} (h : Paired (PlAt K H) T vs) : Paired (PlAt K H') T vs := Paired.mapP h fun _ _ x => x.mono e
theorem TrAt.mono {K : PySem.W.Frag} {H H' : Hp} (e : Ext K H H') {T : List Pl} {v : V} (h : TrAt K H T v) : TrAt K H' T v := let ⟨a, vs, x, y, z⟩ := h; ⟨a, vs, x, e _ _ y, PlAts.mono e z⟩
theorem Paired.getE {α β : Type} {R : α → β → Prop} : ∀ {xs : List α} {ys : List β} {i : Nat} {x : α}, Paired R xs ys → xs[i]? = some x → ∃ y, ys[i]? = some y ∧ R x y
  | _, _, _, _, .nil, e => by simp at e
  | _, _, 0, _, .cons r _, e => by simp at e; subst e; exact ⟨_, rfl, r⟩
  | _, _, i + 1, x, .cons _ t, e => by
    obtain ⟨u, h1, h2⟩ := Paired.getE (i := i) (x := x) t (by simpa using e)
    exact ⟨u, by simpa using h1, h2⟩
def Mk (pl m : List Nat) : Prop := ∃ m0, m0.Sublist pl ∧ m.Perm m0 ∧ m.Pairwise (· ≤ ·)
/-- the tree under way -/
structure WSt (K : PySem.W.Frag) (H : Hp) (l : Addr) (pl : List Nat) (most : Nat) (Hc : Hp) (vs : List V) (T : List Pl) (h : Nat) : Prop where
  hl : Hc l = some (.lst vs)
  pp : Paired (PlAt K Hc) T vs
  same : Same H Hc
  wf : Wf (T.map (·.1)) h
  few : T = [] ∨ T.length + h ≤ most + 1
  mks : ∀ p ∈ T, Mk pl p.2
theorem same_upd {H H' : Hp} {l : Addr} {o : HO} (hn : H l = none) (s : Same H H') : Same H (upd H' l o) := fun b u q => by rw [upd_ne (ne_of_none q hn)]; exact s b u q
theorem WSt.grow {K : PySem.W.Frag} {H : Hp} {l : Addr} {pl : List Nat} {most : Nat} {Hc : Hp} {vs : List V} {T : List Pl} {h : Nat} (z : WSt K H l pl most Hc vs T h) (hn : H l = none) {H1 H2 H3 : Hp} {p : Addr} {b : Nat} {m : List Nat}
    (s1 : Same Hc H1) (hp : H1 p = none) (e2 : H2 = upd H1 p (.tup [.int b, .str (tx m)])) (e3 : H3 = upd H2 l (.lst (vs ++ [.ref p]))) (hb : b ≤ 3) (hh : need b ≤ h) (hf : T.length + 1 + (h + 1 - need b) ≤ most + 1) (hm : Mk pl m) :
    WSt K H l pl most H3 (vs ++ [.ref p]) (T ++ [(b, m)]) (h + 1 - need b) := by
  subst e2; subst e3
  have hl1 := s1 _ _ z.hl
  have pl' : p ≠ l := fun e => by subst e; rw [hp] at hl1; cases hl1
  have s2 : Same Hc (upd H1 p (.tup [.int b, .str (tx m)])) := s1.trans (same_new hp _)
  have bt : But l Hc (upd (upd H1 p (.tup [.int b, .str (tx m)])) l (.lst (vs ++ [.ref p]))) := s2.but.trans but_upd
  refine ⟨upd_same, Paired.snoc (PlAts.mono (SqT.but bt z.hl) z.pp) ⟨p, rfl, SqT.of (by rw [upd_ne pl', upd_same])⟩, same_upd hn (z.same.trans s2), ?_, .inr (by rw [List.length_append]; simp; omega), fun y hy => ?_⟩
  · rw [List.map_append]; exact .snoc z.wf hb hh
  · rcases List.mem_append.mp hy with hy | hy
    · exact z.mks y hy
    · rw [List.mem_singleton] at hy; subst hy; exact hm
section
variable {P : Program} {w : World} {K : PySem.W.Frag} {mg : Str → Option Value} {base : Heap} {f : Addr} {fd : FuncData}
def spWood (K : PySem.W.Frag) : Sp := fun vs H Q _ => ∃ (a : Addr) (ds : List Int) (pl : List Nat) (most : Nat), vs = [.ref a, .str (tx pl), .int most] ∧ H a = some (.lst (ds.map V.int)) ∧ ds.length ≤ 1000 ∧ (∀ d ∈ ds, 0 ≤ d) ∧ pl.length ≤ 52 ∧ most ≤ 1000 ∧
  ∀ (v : V) (T : List Pl) (h : Nat) (H' : Hp), Same H H' → TrAt K H' T v → Wf (T.map (·.1)) h → h ≤ 1 → T.length ≤ most → (∀ p ∈ T, Mk pl p.2) → Q v H'
theorem ok_wood (F : Fun K "_law_wood" "_law_wood" s__law_wood f fd) (B : Bl mg) (h__law_marks : Has P w K mg base 1 "_law_marks" p__law_marks spMarks) : FnOk P w K mg base CX0 2 f fd p__law_wood (spWood K) := by
  refine F.okQ sc__law_wood (fun vs H Q E h => ?_) (fun cdv A outer s H vs Q E hr h => ?_)
  · obtain ⟨a, ds, pl, most, rfl, _⟩ := h; rfl
  obtain ⟨a, ds, pl, most, rfl, ha, hdl, hdn, hpl, hmo, q⟩ := h
  refine ⟨_, (qb_cons (qs_set (i := 3) sc__law_wood.nd rfl (Or.inl rfl) (q_lst qa_nil)) (qb_cons (qs_set (i := 4) sc__law_wood.nd rfl (Or.inl rfl) q_int) (qb_cons (qs_for PassesOwn.never rfl (qi_list (qv 0)) (qg_name (i := 5) sc__law_wood.nd rfl (Or.inl rfl)) (qb_cons (qs_set (i := 6) sc__law_wood.nd rfl (Or.inl rfl) (q_op o_mod (qv 5) q_int)) (qb_cons (qs_if (qt_cmp o_gt (q_op o_fdiv (q_op o_add (qv 6) q_int) q_int) (qv 4)) (qb_one (qs_set (i := 6) sc__law_wood.nd rfl (Or.inl rfl) q_int)) qb_nil) (qb_cons (qs_if (qt_w (qw_and (qt_cmp o_gt (q_op o_sub (q_op o_add (q_op o_add (q_callB c_len_seq B.len PySem.boot_len (qa_cons (qv 3) qa_nil)) (qv 4)) q_int) (q_op o_fdiv (q_op o_add (qv 6) q_int) q_int)) (qv 2)) (qw_and1 (qt_cmp o_gt (qv 4) q_int)))) (qb_one (qs_set (i := 6) sc__law_wood.nd rfl (Or.inl rfl) q_int)) qb_nil) (qb_cons (qs_set (i := 7) sc__law_wood.nd rfl (Or.inl rfl) (q_op o_fdiv (q_op o_add (qv 6) q_int) q_int)) (qb_one (qs_if (qt_cmp o_le (q_op o_sub (q_op o_add (q_op o_add (q_callB c_len_seq B.len PySem.boot_len (qa_cons (qv 3) qa_nil)) (qv 4)) q_int) (qv 7)) (qv 2)) (qb_cons (qs_expr (q_ml PySem.F.slot_list_append PySem.F.type_list_append m_append (qv 3) (qa_cons (q_tup (qa_cons (qv 6) (qa_cons (q_has h__law_marks hr (by omega) (qa_cons (qv 1) (qa_cons (q_op o_mod (q_op o_fdiv (qv 5) q_int) q_int) qa_nil))) qa_nil))) qa_nil))) (qb_one (qs_set (i := 4) sc__law_wood.nd rfl (Or.inl rfl) (q_op o_sub (q_op o_add (qv 4) q_int) (qv 7))))) qb_nil))))))) (qb_cons (qs_while PassesOwn.never (qt_cmp o_gt (qv 4) q_int) (qb_cons (qs_expr (q_ml PySem.F.slot_list_append PySem.F.type_list_append m_append (qv 3) (qa_cons (q_tup (qa_cons q_int (qa_cons (q_ix i_tup (q_ix i_list (qv 3) (q_op o_sub (qv 4) q_int)) q_int) qa_nil))) qa_nil))) (qb_one (qs_set (i := 4) sc__law_wood.nd rfl (Or.inl rfl) (q_op o_sub (qv 4) q_int))))) (qb_one (qs_ret (q_callTy c_tuple B.tuple boot_tuple (qa_cons (qv 3) qa_nil)))))))), ?_⟩
  simp only [tSortSet, tRevS, rSorted, tYes, tComp_def, cxOf, rLenQ, rLenS, rAddS, rLe1, rMax, rMin, rOrd, rInt1, tStrs, rIsi, if_true, if_false, Bool.false_eq_true, tTupF, tLstF, rAppendF, rPopF, rSetLF, rTupleOf, rListOf, rCatF, scal_ss, scal_ii, scal_bb, V_str_eq, V_int_eq, V_bl_eq, tML, tMS, tML0, rJoin, upd_same, upd_upd, HO.lst.injEq, exists_const, and_self, and_assoc, tSeq, tAsg, gName, tC, tVar, tOp, tUn, rI, rI0, rU, tTest, tB, tIfS, tRet, tRetN, tNext, tDrop, tCB, tCons, tNil, tTup, tLst, tCall, tBM, tBM0, tyV, rAppend, rPop, rEq, rNe, rIxL, rIxT, rIxS, tAnd, tOr, tNot, tAndV, tOrV, tNotV, tIf, tIsN, tNotN, tChain, tSl, tNoPart, tPart, rSlS, rInS, rCat, rCatT, gSub, rSetL, gTup, gCons, gNil, L2.start, List.map, List.length, List.replicate, List.getElem?_cons_zero, List.getElem?_cons_succ, List.set_cons_zero, List.set_cons_succ, List.cons_append, List.nil_append, List.append_nil, Option.some.injEq, exists_eq_left', V.ref.injEq, V.int.injEq, V.str.injEq, V.bl.injEq, V.ty.injEq, List.cons.injEq, and_true, true_and, exists_and_left, exists_eq_left, exists_eq', exists_eq_right, Nat.add_one_sub_one, Nat.sub_self, Nat.reduceAdd, Nat.reduceSub]
  refine ⟨le_line (by omega), fun l H1 hl e1 => ?_⟩
  have s1 : Same H H1 := by rw [e1]; exact same_new hl _
  refine ⟨_, rfl, a, rfl, ⟨_, .of (s1 _ _ ha)⟩, ?_⟩
  refine for_list (xs := ds.map V.int) (fun i σ Hc => ∃ (T : List Pl) (vs : List V) (h : Nat) (o5 o6 o7 : Option V), σ = [some (.ref a), some (.str (tx pl)), some (.int most), some (.ref l), some (.int h), o5, o6, o7] ∧ WSt K H l pl most Hc vs T h ∧ T.length ≤ i)
    ⟨[], [], 0, none, none, none, rfl, ⟨by rw [e1, upd_same], .nil, s1, .nil, .inl rfl, by simp⟩, Nat.le_refl _⟩ (fun i σ Hc _ ⟨_, _, _, _, _, _, _, z, _⟩ => .of (z.same _ _ ha)) ?_ ?_
  · rintro i x σ Hc hx ⟨T, vs, h, o5, o6, o7, rfl, z, hT⟩
    obtain ⟨d, rfl, hd0⟩ : ∃ d, x = V.int d ∧ 0 ≤ d := by
      rw [List.getElem?_map] at hx
      cases e : ds[i]? with
      | none => rw [e] at hx; cases hx
      | some d => rw [e] at hx; exact ⟨d, (Option.some.inj hx).symm, hdn d (List.mem_of_getElem? e)⟩
    simp only [tSortSet, tRevS, rSorted, tYes, tComp_def, cxOf, rLenQ, rLenS, rAddS, rLe1, rMax, rMin, rOrd, rInt1, tStrs, rIsi, if_true, if_false, Bool.false_eq_true, tTupF, tLstF, rAppendF, rPopF, rSetLF, rTupleOf, rListOf, rCatF, scal_ss, scal_ii, scal_bb, V_str_eq, V_int_eq, V_bl_eq, tML, tMS, tML0, rJoin, upd_same, upd_upd, HO.lst.injEq, exists_const, and_self, and_assoc, tSeq, tAsg, gName, tC, tVar, tOp, tUn, rI, rI0, rU, tTest, tB, tIfS, tRet, tRetN, tNext, tDrop, tCB, tCons, tNil, tTup, tLst, tCall, tBM, tBM0, tyV, rAppend, rPop, rEq, rNe, rIxL, rIxT, rIxS, tAnd, tOr, tNot, tAndV, tOrV, tNotV, tIf, tIsN, tNotN, tChain, tSl, tNoPart, tPart, rSlS, rInS, rCat, rCatT, gSub, rSetL, gTup, gCons, gNil, L2.start, List.map, List.length, List.replicate, List.getElem?_cons_zero, List.getElem?_cons_succ, List.set_cons_zero, List.set_cons_succ, List.cons_append, List.nil_append, List.append_nil, Option.some.injEq, exists_eq_left', V.ref.injEq, V.int.injEq, V.str.injEq, V.bl.injEq, V.ty.injEq, List.cons.injEq, and_true, true_and, exists_and_left, exists_eq_left, exists_eq', exists_eq_right, Nat.add_one_sub_one, Nat.sub_self, Nat.reduceAdd, Nat.reduceSub, spMarks]
    have hvl : vs.length = T.length := (Paired.length z.pp).symm
    have q0 : 0 ≤ d % 4 := Int.emod_nonneg _ (by decide)
    have q1 : d % 4 < 4 := Int.emod_lt_of_pos _ (by decide)
    have hi : i < ds.length := by
      have := (List.getElem?_eq_some_iff.mp hx).1
      simpa using this
    have cd : ∀ x : Int, CDiv x 2 := fun x => ⟨by decide, by decide⟩
    have hS : SqL K Hc l vs ∨ SqT K Hc l vs := .inl (.of z.hl)
    obtain ⟨b0, hb0⟩ : ∃ b0 : Nat, d % 4 = (b0 : Int) := ⟨(d % 4).toNat, by omega⟩
    rw [hb0]
    have fin : ∀ (b : Nat) (bi : Int), bi = (b : Int) → b ≤ 3 → need b ≤ h → (vs.length : Int) + h + 1 - (bi + 1) / 2 ≤ most → ∀ m, Mk pl m → ∀ H', Same Hc H' → ∀ p H2, H' p = none → H2 = upd H' p (.tup [.int bi, .str (tx m)]) →
        ∃ x, H2 l = some (.lst x) ∧ x.length < sizeLine ∧ ∀ H3, H3 = upd H2 l (.lst (x ++ [.ref p])) → ∃ (T : List Pl) (vs : List V) (h1 : Nat), (h : Int) + 1 - (bi + 1) / 2 = h1 ∧ WSt K H l pl most H3 vs T h1 ∧ T.length ≤ i + 1 := by
      intro b bi hbi hb hh hf m hm H' s' p H2 hp e2
      subst hbi
      have hl' := s' _ _ z.hl
      have pl' : p ≠ l := fun e => by subst e; rw [hp] at hl'; cases hl'
      unfold need at hh
      refine ⟨vs, by rw [e2, upd_ne (Ne.symm pl')]; exact hl', lt_line (by omega), fun H3 e3 => ⟨_, _, _, ?_, z.grow hl (b := b) (m := m) s' hp e2 e3 hb hh (by unfold need; omega) hm, by rw [List.length_append]; simp; omega⟩⟩
      unfold need; omega
    refine ⟨by decide, cd _, ite2 (fun c1 => ?_) (fun c1 => ?_)⟩
    all_goals refine ⟨_, hS, cd _, ite2 (fun c2 => ite2 (fun c3 => ?_) (fun c3 => ?_)) (fun c2 => ?_)⟩
    all_goals refine ⟨cd _, _, hS, ite2 (fun c4 => ⟨⟨_, z.hl⟩, ⟨by decide, by decide⟩, by decide, pl, rfl, hpl, Int.emod_nonneg _ (by decide), fun m m0 m1 m2 m3 H' s' => ⟨le_line (by decide), fun p H2 hp e2 => ?_⟩⟩) (fun c4 => ?_)⟩
    all_goals simp only [decide_eq_true_eq, decide_eq_false_iff_not] at c1 c2 c4
    all_goals first
      | exact ⟨T, vs, h, rfl, z, by omega⟩
      | exact fin 3 3 rfl (by decide) (by simp only [decide_eq_true_eq] at c3; unfold need; omega) c4 m ⟨m0, m1, m2, m3⟩ H' s' p H2 hp e2
      | exact fin 0 0 rfl (by decide) (by unfold need; omega) c4 m ⟨m0, m1, m2, m3⟩ H' s' p H2 hp e2
      | exact fin b0 b0 rfl (by omega) (by unfold need; omega) c4 m ⟨m0, m1, m2, m3⟩ H' s' p H2 hp e2
  · rintro σ Hc ⟨T, vs, h, o5, o6, o7, rfl, z, hT⟩
    rw [List.length_map] at hT
    refine while_by (fun σ Hc => ∃ (T : List Pl) (vs : List V) (h : Nat) (o5 o6 o7 : Option V), σ = [some (.ref a), some (.str (tx pl)), some (.int most), some (.ref l), some (.int h), o5, o6, o7] ∧ WSt K H l pl most Hc vs T h ∧ T.length ≤ 2000)
      (fun σ _ => match σ with | [_, _, _, _, some (.int h), _, _, _] => h.toNat | _ => 0) ⟨T, vs, h, o5, o6, o7, rfl, z, by omega⟩ ?_ ?_
    · rintro σ Hc ⟨T, vs, h, o5, o6, o7, rfl, z, hT⟩
      simp only [tSortSet, tRevS, rSorted, tYes, tComp_def, cxOf, rLenQ, rLenS, rAddS, rLe1, rMax, rMin, rOrd, rInt1, tStrs, rIsi, if_true, if_false, Bool.false_eq_true, tTupF, tLstF, rAppendF, rPopF, rSetLF, rTupleOf, rListOf, rCatF, scal_ss, scal_ii, scal_bb, V_str_eq, V_int_eq, V_bl_eq, tML, tMS, tML0, rJoin, upd_same, upd_upd, HO.lst.injEq, exists_const, and_self, and_assoc, tSeq, tAsg, gName, tC, tVar, tOp, tUn, rI, rI0, rU, tTest, tB, tIfS, tRet, tRetN, tNext, tDrop, tCB, tCons, tNil, tTup, tLst, tCall, tBM, tBM0, tyV, rAppend, rPop, rEq, rNe, rIxL, rIxT, rIxS, tAnd, tOr, tNot, tAndV, tOrV, tNotV, tIf, tIsN, tNotN, tChain, tSl, tNoPart, tPart, rSlS, rInS, rCat, rCatT, gSub, rSetL, gTup, gCons, gNil, L2.start, List.map, List.length, List.replicate, List.getElem?_cons_zero, List.getElem?_cons_succ, List.set_cons_zero, List.set_cons_succ, List.cons_append, List.nil_append, List.append_nil, Option.some.injEq, exists_eq_left', V.ref.injEq, V.int.injEq, V.str.injEq, V.bl.injEq, V.ty.injEq, List.cons.injEq, and_true, true_and, exists_and_left, exists_eq_left, exists_eq', exists_eq_right, Nat.add_one_sub_one, Nat.sub_self, Nat.reduceAdd, Nat.reduceSub]
      have hvl : vs.length = T.length := (Paired.length z.pp).symm
      have hle : h ≤ T.length := by have := z.wf.le; rwa [List.length_map] at this
      refine ite2 (fun c => ?_) (fun c => ?_)
      · have c : 1 < h := by simp at c; omega
        have hT0 : T ≠ [] := fun e => by subst e; simp at hle; omega
        have few : T.length + h ≤ most + 1 := z.few.resolve_left hT0
        have hk : h - 1 < T.length := by omega
        obtain ⟨y, hy, qp, ey, hq⟩ := Paired.getE z.pp (List.getElem?_eq_getElem hk)
        subst ey
        have e0 : ((h : Int) - 1) = ((h - 1 : Nat) : Int) := by omega
        rw [e0]
        refine ⟨⟨_, z.hl⟩, _, .of z.hl, _, atI_nat hy, qp, rfl, _, hq, _, rfl, le_line (by decide), fun p H2 hp e2 => ?_⟩
        have hl' := z.hl
        have pl' : p ≠ l := fun e => by subst e; rw [hp] at hl'; cases hl'
        refine ⟨vs, by rw [e2, upd_ne (Ne.symm pl')]; exact hl', lt_line (by omega), fun H3 e3 => ⟨⟨_, _, _, ?_, z.grow hl (b := 3) (m := T[h - 1].2) (Same.refl _) hp e2 e3 (by decide) (by unfold need; omega) (by unfold need; omega) (z.mks _ (List.getElem_mem hk)), by rw [List.length_append]; simp; omega⟩, by omega⟩⟩
        unfold need; omega
      · have c : ¬ 1 < h := by simp at c; omega
        refine ⟨_, .of z.hl, fun p H2 hp e2 => ?_⟩
        have s2 : Same Hc H2 := by rw [e2]; exact same_new hp _
        refine q (.ref p) T h H2 (z.same.trans s2) ⟨p, vs, rfl, by rw [e2]; exact SqT.new, PlAts.mono (SqT.same s2) z.pp⟩ z.wf (by omega) ?_ z.mks
        rcases z.few with e | e
        · subst e; exact Nat.zero_le _
        · by_cases hT0 : T = []
          · subst hT0; exact Nat.zero_le _
          · have := z.wf.pos (by simpa using hT0); omega
    · intro σ H0 Q1 Q2 hQ h0
      simp only [tSortSet, tRevS, rSorted, tYes, tComp_def, cxOf, rLenQ, rLenS, rAddS, rLe1, rMax, rMin, rOrd, rInt1, tStrs, rIsi, if_true, if_false, Bool.false_eq_true, tTupF, tLstF, rAppendF, rPopF, rSetLF, rTupleOf, rListOf, rCatF, scal_ss, scal_ii, scal_bb, V_str_eq, V_int_eq, V_bl_eq, tML, tMS, tML0, rJoin, upd_same, upd_upd, HO.lst.injEq, exists_const, and_self, and_assoc, tSeq, tAsg, gName, tC, tVar, tOp, tUn, rI, rI0, rU, tTest, tB, tIfS, tRet, tRetN, tNext, tDrop, tCB, tCons, tNil, tTup, tLst, tCall, tBM, tBM0, tyV, rAppend, rPop, rEq, rNe, rIxL, rIxT, rIxS, tAnd, tOr, tNot, tAndV, tOrV, tNotV, tIf, tIsN, tNotN, tChain, tSl, tNoPart, tPart, rSlS, rInS, rCat, rCatT, gSub, rSetL, gTup, gCons, gNil, L2.start, List.map, List.length, List.replicate, List.getElem?_cons_zero, List.getElem?_cons_succ, List.set_cons_zero, List.set_cons_succ, List.cons_append, List.nil_append, List.append_nil, Option.some.injEq, exists_eq_left', V.ref.injEq, V.int.injEq, V.str.injEq, V.bl.injEq, V.ty.injEq, List.cons.injEq, and_true, true_and, exists_and_left, exists_eq_left, exists_eq', exists_eq_right, Nat.add_one_sub_one, Nat.sub_self, Nat.reduceAdd, Nat.reduceSub] at h0 ⊢
      obtain ⟨v, h1, j, h2, h3⟩ := h0
      exact ⟨v, h1, j, h2, hQ _ _ h3⟩
end
end P
set_option Elab.async false
set_option linter.all false
set_option maxRecDepth 100000
set_option maxHeartbeats 4000000
namespace P
open PySem L2
open PyProof.Rows (boot_sorted boot_set boot_ord boot_all boot_enumerate boot_int boot_str boot_bool boot_list boot_tuple boot_isinstance boot_max boot_min)
section
variable {P : Program} {w : World} {K : PySem.W.Frag} {mg : Str → Option Value} {base : Heap} {f g : Addr} {fd gd : FuncData} {aT aJ : Addr}
/-! ### _law_same -/
inductive Kind (d : D) (u : V) : Prop where
  | tup (p : Addr) (h : tyName d = "tuple") (e : u = .ref p)
  | non (h : d = .non) (e : u = .non)
  | bl (b : Bool) (h : d = .bl b) (e : u = .bl b)
  | int (i : Int) (h : d = .int i) (e : u = .int i)
  | str (l : List Nat) (h : d = .str l) (e : u = .str (tx l))
theorem dpKind {H : Hp} {d : D} {u : V} (h : Dp K H d u) : Kind d u := by
  cases d with
  | non => unfold Dp at h; exact .non rfl h
  | bl b => unfold Dp at h; exact .bl b rfl h
  | int i => unfold Dp at h; exact .int i rfl h
  | str l => unfold Dp at h; exact .str l rfl h
  | tnil => obtain ⟨p, _, _, e, _⟩ := h.exT rfl; exact .tup p rfl e
  | tcons a b => obtain ⟨p, _, _, e, _⟩ := h.exT rfl; exact .tup p rfl e
theorem D_bl_eq (a b : Bool) : decide (D.bl a = D.bl b) = decide (a = b) := by simp
theorem D_int_eq (a b : Int) : decide (D.int a = D.int b) = decide (a = b) := by simp
theorem D_str_eq (a b : List Nat) : decide (D.str a = D.str b) = decide (a = b) := by simp
theorem ne_tuple {d e : D} (h : tyName d = "tuple") (h' : tyName e ≠ "tuple") : decide (d = e) = false := decide_eq_false fun z => h' (z ▸ h)
def spSame (K : PySem.W.Frag) (n : Nat) : Sp := fun vs H Q _ => ∃ (u v : V) (d e : D), vs = [u, v] ∧ Dp K H d u ∧ Dp K H e v ∧ e.dep ≤ n ∧ e.size ≤ 1000000 ∧ (∀ H', H' = H → Q (.bl (decide (d = e))) H')
theorem ok_same {n : Nat} (F : Fun K "_law_same" "_law_same" s__law_same f fd) (B : Bl mg) (h__law_same : Has P w K mg base (n + 1) "_law_same" p__law_same (spSame K n)) : FnOk P w K mg base CX0 (n + 2) f fd p__law_same (spSame K (n + 1)) := by
  refine F.okQ sc__law_same (fun vs H Q E h => ?_) (fun cdv A outer s H vs Q E hr h => ?_)
  · obtain ⟨u, v, d, e, rfl, _⟩ := h; rfl
  obtain ⟨u, v, d, e, rfl, hu, hv, hn, hsz, q⟩ := h
  have q := q H rfl
  refine ⟨_, (qb_cons (qs_if (qt_val (q_callB c_isi B.isinstance boot_isinstance (qa_cons (qv 1) (qa_cons (q_ty B.tuple boot_tuple) qa_nil)))) (qb_cons (qs_if (qt_w (qw_or (qt_not (qt_val (q_callB c_isi B.isinstance boot_isinstance (qa_cons (qv 0) (qa_cons (q_ty B.tuple boot_tuple) qa_nil))))) (qw_or1 (qt_cmp o_ne (q_callB c_len_seq B.len PySem.boot_len (qa_cons (qv 0) qa_nil)) (q_callB c_len_seq B.len PySem.boot_len (qa_cons (qv 1) qa_nil)))))) (qb_one (qs_ret q_bl)) qb_nil) (qb_cons (qs_for PassesOwn.never rfl (qi_range1 B.range (qa_cons (q_callB c_len_seq B.len PySem.boot_len (qa_cons (qv 1) qa_nil)) qa_nil)) (qg_name (i := 2) sc__law_same.nd rfl (Or.inl rfl)) (qb_one (qs_if (qt_not (qt_val (q_has h__law_same hr (by omega) (qa_cons (q_ix i_tup (qv 0) (qv 2)) (qa_cons (q_ix i_tup (qv 1) (qv 2)) qa_nil))))) (qb_one (qs_ret q_bl)) qb_nil))) (qb_one (qs_ret q_bl)))) qb_nil) (qb_cons (qs_if (qt_isN (qv 1)) (qb_one (qs_ret (q_isN (qv 0)))) qb_nil) (qb_cons (qs_if (qt_val (q_callB c_isi B.isinstance boot_isinstance (qa_cons (qv 1) (qa_cons (q_ty B.bool boot_bool) qa_nil)))) (qb_one (qs_ret (q_and (q_callB c_isi B.isinstance boot_isinstance (qa_cons (qv 0) (qa_cons (q_ty B.bool boot_bool) qa_nil))) (q_one (q_cmp o_eq (qv 0) (qv 1)))))) qb_nil) (qb_cons (qs_if (qt_val (q_callB c_isi B.isinstance boot_isinstance (qa_cons (qv 1) (qa_cons (q_ty B.int boot_int) qa_nil)))) (qb_one (qs_ret (q_and (q_callB c_isi B.isinstance boot_isinstance (qa_cons (qv 0) (qa_cons (q_ty B.int boot_int) qa_nil))) (q_and (q_not (q_callB c_isi B.isinstance boot_isinstance (qa_cons (qv 0) (qa_cons (q_ty B.bool boot_bool) qa_nil)))) (q_one (q_cmp o_eq (qv 0) (qv 1))))))) qb_nil) (qb_one (qs_ret (q_and (q_callB c_isi B.isinstance boot_isinstance (qa_cons (qv 0) (qa_cons (q_ty B.str boot_str) qa_nil))) (q_one (q_cmp o_eq (qv 0) (qv 1)))))))))), ?_⟩
  simp only [tSortSet, tRevS, rSorted, tYes, tComp_def, cxOf, rLenQ, rLenS, rAddS, rLe1, rMax, rMin, rOrd, rInt1, tStrs, rIsi, if_true, if_false, Bool.false_eq_true, tTupF, tLstF, rAppendF, rPopF, rSetLF, rTupleOf, rListOf, rCatF, scal_ss, scal_ii, scal_bb, V_str_eq, V_int_eq, V_bl_eq, tML, tMS, tML0, rJoin, upd_same, upd_upd, HO.lst.injEq, exists_const, and_self, and_assoc, tSeq, tAsg, gName, tC, tVar, tOp, tUn, rI, rI0, rU, tTest, tB, tIfS, tRet, tRetN, tNext, tDrop, tCB, tCons, tNil, tTup, tLst, tCall, tBM, tBM0, tyV, rAppend, rPop, rEq, rNe, rIxL, rIxT, rIxS, tAnd, tOr, tNot, tAndV, tOrV, tNotV, tIf, tIsN, tNotN, tChain, tSl, tNoPart, tPart, rSlS, rInS, rCat, rCatT, gSub, rSetL, gTup, gCons, gNil, L2.start, List.map, List.length, List.replicate, List.getElem?_cons_zero, List.getElem?_cons_succ, List.set_cons_zero, List.set_cons_succ, List.cons_append, List.nil_append, List.append_nil, Option.some.injEq, exists_eq_left', V.ref.injEq, V.int.injEq, V.str.injEq, V.bl.injEq, V.ty.injEq, List.cons.injEq, and_true, true_and, exists_and_left, exists_eq_left, exists_eq', exists_eq_right, Nat.add_one_sub_one, Nat.sub_self, Nat.reduceAdd, Nat.reduceSub]
  refine ⟨e, hv, .inl rfl, ?_⟩
  by_cases ht : tyName e = "tuple"
  · refine if_tt (by unfold isiD; rw [ht]; rfl) ⟨d, hu, .inl rfl, ?_⟩
    obtain ⟨p2, vs2, ds2, rfl, hS2, hd2, rfl⟩ := hv.exT ht
    by_cases td : tyName d = "tuple"
    · obtain ⟨p1, vs1, ds1, rfl, hS1, hd1, rfl⟩ := hu.exT td
      refine if_ff (by unfold isiD; rw [td]; rfl) ⟨p1, rfl, _, .inr hS1, p2, rfl, _, .inr hS2, ?_⟩
      have l1 := hd1.length
      have l2 := hd2.length
      have eq1 : decide (D.tup ds1 = D.tup ds2) = decide (ds1 = ds2) := by
        by_cases h : ds1 = ds2
        · subst h; simp
        · rw [decide_eq_false h, decide_eq_false fun z => h (D.tup_inj.mp z)]
      rw [eq1] at q
      refine ite2 (fun c => ?_) (fun c => ?_)
      · have hne : ds1 ≠ ds2 := fun z => by subst z; simp [← l1, ← l2] at c
        rw [decide_eq_false hne] at q; exact q
      · have hlen : vs1.length = vs2.length := by simp at c; omega
        have hb : vs2.length ≤ 1000000 := by rw [← l2]; exact Nat.le_trans (D.size_tup ds2) hsz
        refine ⟨_, rfl, p2, _, rfl, .inr hS2, _, rfl, by omega, by omega, for_range (fun i σ H' => ∃ o, σ = [some (.ref p1), some (.ref p2), o] ∧ H' = H ∧ ∀ j : Nat, j < i → ds1[j]? = ds2[j]?) ⟨none, rfl, rfl, fun j h => absurd h (Nat.not_lt_zero j)⟩ ?_ ?_⟩
        · rintro i σ H' hi ⟨o, rfl, rfl, hall⟩
          simp only [tSortSet, tRevS, rSorted, tYes, tComp_def, cxOf, rLenQ, rLenS, rAddS, rLe1, rMax, rMin, rOrd, rInt1, tStrs, rIsi, if_true, if_false, Bool.false_eq_true, tTupF, tLstF, rAppendF, rPopF, rSetLF, rTupleOf, rListOf, rCatF, scal_ss, scal_ii, scal_bb, V_str_eq, V_int_eq, V_bl_eq, tML, tMS, tML0, rJoin, upd_same, upd_upd, HO.lst.injEq, exists_const, and_self, and_assoc, tSeq, tAsg, gName, tC, tVar, tOp, tUn, rI, rI0, rU, tTest, tB, tIfS, tRet, tRetN, tNext, tDrop, tCB, tCons, tNil, tTup, tLst, tCall, tBM, tBM0, tyV, rAppend, rPop, rEq, rNe, rIxL, rIxT, rIxS, tAnd, tOr, tNot, tAndV, tOrV, tNotV, tIf, tIsN, tNotN, tChain, tSl, tNoPart, tPart, rSlS, rInS, rCat, rCatT, gSub, rSetL, gTup, gCons, gNil, L2.start, List.map, List.length, List.replicate, List.getElem?_cons_zero, List.getElem?_cons_succ, List.set_cons_zero, List.set_cons_succ, List.cons_append, List.nil_append, List.append_nil, Option.some.injEq, exists_eq_left', V.ref.injEq, V.int.injEq, V.str.injEq, V.bl.injEq, V.ty.injEq, List.cons.injEq, and_true, true_and, exists_and_left, exists_eq_left, exists_eq', exists_eq_right, Nat.add_one_sub_one, Nat.sub_self, Nat.reduceAdd, Nat.reduceSub]
          have hi2 : i < ds2.length := by rw [l2]; omega
          have hi1 : i < ds1.length := by rw [l1, hlen]; omega
          obtain ⟨y1, hy1, dy1⟩ := hd1.get (List.getElem?_eq_getElem hi1)
          obtain ⟨y2, hy2, dy2⟩ := hd2.get (List.getElem?_eq_getElem hi2)
          have e0 : (0 + (i : Int)) = (i : Int) := by omega
          rw [e0]
          refine ⟨_, hS1, _, atI_nat hy1, _, hS2, _, atI_nat hy2, y1, y2, ds1[i], ds2[i], rfl, dy1, dy2, ?_, ?_, fun H' e => ?_⟩
          · have := D.dep_mem (List.getElem_mem hi2); omega
          · exact Nat.le_trans (D.size_mem (List.getElem_mem hi2)) hsz
          subst e
          refine ⟨_, rfl, ?_⟩
          by_cases h : ds1[i] = ds2[i]
          · refine if_ff (by rw [decide_eq_true h]; rfl) ⟨rfl, fun j hj => ?_⟩
            by_cases hj' : j = i
            · subst hj'; rw [List.getElem?_eq_getElem hi1, List.getElem?_eq_getElem hi2, h]
            · exact hall j (by omega)
          · refine if_tt (by rw [decide_eq_false h]; rfl) ?_
            have hne : ds1 ≠ ds2 := fun z => h (by subst z; rfl)
            rw [decide_eq_false hne] at q; exact q
        · rintro σ H' ⟨o, rfl, rfl, hall⟩
          have heq : ds1 = ds2 := List.ext_getElem? fun j => by
            by_cases hj : j < vs2.length
            · exact hall j (by omega)
            · rw [List.getElem?_eq_none (by omega), List.getElem?_eq_none (by omega)]
          rw [decide_eq_true heq] at q
          exact q
    · refine if_tt (by unfold isiD; cases d <;> first | rfl | exact absurd rfl td) ?_
      have hne : d ≠ D.tup ds2 := fun z => td (z ▸ ht)
      rw [decide_eq_false hne] at q; exact q
  · refine if_ff (by unfold isiD; cases e <;> first | rfl | exact absurd rfl ht) ?_
    cases dpKind hv with
    | tup p h e' => exact absurd h ht
    | non h e' =>
      subst h; subst e'
      refine if_tt rfl ?_
      cases dpKind hu with
      | tup p h e' => subst e'; rw [ne_tuple h ht] at q; exact q
      | non h e' => subst h; subst e'; exact q
      | bl b h e' => subst h; subst e'; exact q
      | int b h e' => subst h; subst e'; exact q
      | str b h e' => subst h; subst e'; exact q
    | bl b h e' =>
      subst h; subst e'
      refine if_ff rfl ⟨_, hv, .inr (.inl rfl), if_tt rfl ⟨_, hu, .inr (.inl rfl), ?_⟩⟩
      cases dpKind hu with
      | tup p h e' => subst e'; rw [ne_tuple h ht] at q; exact if_ff (by unfold isiD; rw [h]; rfl) q
      | non h e' => subst h; subst e'; exact q
      | bl b h e' => subst h; subst e'; refine if_tt rfl ⟨rfl, ?_⟩; rw [V_bl_eq]; rw [D_bl_eq] at q; exact q
      | int b h e' => subst h; subst e'; exact q
      | str b h e' => subst h; subst e'; exact q
    | int b h e' =>
      subst h; subst e'
      refine if_ff rfl ⟨_, hv, .inr (.inl rfl), if_ff rfl ⟨_, hv, .inr (.inr (.inl rfl)), if_tt rfl ⟨_, hu, .inr (.inr (.inl rfl)), ?_⟩⟩⟩
      cases dpKind hu with
      | tup p h e' => subst e'; rw [ne_tuple h ht] at q; exact if_ff (by unfold isiD; rw [h]; rfl) q
      | non h e' => subst h; subst e'; exact q
      | bl b h e' => subst h; subst e'; exact if_tt rfl ⟨_, hu, .inr (.inl rfl), if_ff rfl q⟩
      | int b h e' => subst h; subst e'; refine if_tt rfl ⟨_, hu, .inr (.inl rfl), if_tt rfl ⟨rfl, ?_⟩⟩; rw [V_int_eq]; rw [D_int_eq] at q; exact q
      | str b h e' => subst h; subst e'; exact q
    | str b h e' =>
      subst h; subst e'
      refine if_ff rfl ⟨_, hv, .inr (.inl rfl), if_ff rfl ⟨_, hv, .inr (.inr (.inl rfl)), if_ff rfl ⟨_, hu, .inr (.inr (.inr rfl)), ?_⟩⟩⟩
      cases dpKind hu with
      | tup p h e' => subst e'; rw [ne_tuple h ht] at q; exact if_ff (by unfold isiD; rw [h]; rfl) q
      | non h e' => subst h; subst e'; exact q
      | bl b h e' => subst h; subst e'; exact q
      | int b h e' => subst h; subst e'; exact q
      | str b h e' => subst h; subst e'; refine if_tt rfl ⟨rfl, ?_⟩; rw [V_str_eq]; rw [D_str_eq] at q; exact q
theorem has_same (F : Fun K "_law_same" "_law_same" s__law_same f fd) (m : mg "_law_same" = some (.ref f)) (B : Bl mg) : ∀ n : Nat, Has P w K mg base (n + 1) "_law_same" p__law_same (spSame K n)
  | 0 => by
    refine has_mk F m (fun _ _ _ _ _ _ us hl => match us, hl with | [_, _], _ => rfl) ?_
    have no : ∀ vs H Q E, ¬ spSame K 0 vs H Q E := fun vs H Q E ⟨u, v, d, e, _, _, _, hn, _⟩ => by have := D.dep_pos e; omega
    exact ⟨fun vs H Q E h => absurd h (no vs H Q E), fun A outer s H args us vs Q E _ _ _ _ h => absurd h (no vs H Q E)⟩
  | n + 1 => has_mk F m (fun _ _ _ _ _ _ us hl => match us, hl with | [_, _], _ => rfl) (ok_same F B (has_same F m B n))
end
end P
set_option Elab.async false
set_option linter.all false
set_option maxRecDepth 100000
set_option maxHeartbeats 4000000
namespace P
open PySem L2
open PyProof.Rows (boot_sorted boot_set boot_ord boot_all boot_enumerate boot_int boot_str boot_bool boot_list boot_tuple boot_isinstance boot_max boot_min)
def hasL (b : Nat) : Bool := decide (b = 1) || decide (b = 3)
def hasR (b : Nat) : Bool := decide (b = 2) || decide (b = 3)
/-- how many trees stand behind these places -/
def stand (bs : List Nat) : Int := (bs.map fun b => (1 : Int) - need b).sum
theorem stand_snoc (bs : List Nat) (b : Nat) : stand (bs ++ [b]) = stand bs + 1 - need b := by
  unfold stand; rw [List.map_append, List.sum_append]; simp; omega
theorem stand_next {bs : List Nat} {i b : Nat} (h : bs[i]? = some b) : stand (bs.take (i + 1)) = stand (bs.take i) + 1 - need b := by
  rw [List.take_add_one, h]; exact stand_snoc _ _
def TreeOk (bs : List Nat) : Prop := bs.length = 0 ∨ (stand bs = 1 ∧ ∀ j, j < bs.length → 1 ≤ stand (bs.take (j + 1)))
instance (bs : List Nat) : Decidable (TreeOk bs) := by unfold TreeOk; infer_instance
theorem tree_no {bs : List Nat} {j : Nat} (hj : j < bs.length) (h : stand (bs.take (j + 1)) < 1) : decide (TreeOk bs) = false := decide_eq_false fun z => by
  rcases z with z | ⟨_, z⟩
  · omega
  · have := z j hj; omega
theorem tree_no' {bs : List Nat} {j : Nat} (hj : j < bs.length) (h : stand (bs.take (j + 1)) < stand bs) : decide (TreeOk bs) = false := decide_eq_false fun z => by
  rcases z with z | ⟨y, z⟩
  · omega
  · have := z j hj; omega
theorem tree_end {bs : List Nat} (h : ∀ j, j < bs.length → 1 ≤ stand (bs.take (j + 1))) : decide (TreeOk bs) = (decide (bs.length = 0) || decide (stand bs = 1)) := by
  by_cases h0 : bs.length = 0
  · rw [decide_eq_true h0, Bool.true_or]; exact decide_eq_true (.inl h0)
  · rw [decide_eq_false h0, Bool.false_or]
    exact decide_eq_decide.mpr ⟨fun z => (z.resolve_left h0).1, fun z => .inr ⟨z, h⟩⟩
theorem tree_end' {bs : List Nat} (h : ∀ j, j < bs.length → stand bs ≤ stand (bs.take (j + 1))) : decide (TreeOk bs) = (decide (bs.length = 0) || decide (1 - stand bs = 0)) := by
  by_cases h0 : bs.length = 0
  · rw [decide_eq_true h0, Bool.true_or]; exact decide_eq_true (.inl h0)
  · rw [decide_eq_false h0, Bool.false_or]
    exact decide_eq_decide.mpr ⟨fun z => by have := (z.resolve_left h0).1; omega, fun z => .inr ⟨by omega, fun j hj => by have := h j hj; omega⟩⟩
theorem need_lr {b : Nat} (h : b ≤ 3) : (need b : Int) = (if hasL b = true then 1 else 0) + (if hasR b = true then 1 else 0) := by
  rcases (show b = 0 ∨ b = 1 ∨ b = 2 ∨ b = 3 by omega) with rfl | rfl | rfl | rfl <;> decide
section
variable {P : Program} {w : World} {K : PySem.W.Frag} {mg : Str → Option Value} {base : Heap} {f aF : Addr} {fd : FuncData}
structure Gc (K : PySem.W.Frag) (mg : Str → Option Value) (aF : Addr) : Prop where
  EMPTY : ∃ u, mg "EMPTY" = some u ∧ RelV (.str "-") u
  MOST_PLACES : ∃ u, mg "MOST_PLACES" = some u ∧ RelV (.int 100) u
  FIGURES : ∃ u, mg "FIGURES" = some u ∧ RelV (.ref aF) u
  figs : ∀ H, SqT K H aF [.str (tx [48]), .str (tx [49]), .str (tx [50]), .str (tx [51])]
  ALL_LETTERS : ∃ u, mg "ALL_LETTERS" = some u ∧ RelV (.str "ABCDEFGHIJKLMNOPQRSTUVWXYZabcdefghijklmnopqrstuvwxyz") u
/-! ### is_letter, is_small -/
def lett : List Nat → Bool
  | [c] => decide (isL c)
  | _ => false
def spLett : Sp := fun vs H Q _ => ∃ l : List Nat, vs = [.str (tx l)] ∧ l.length ≤ 1000 ∧ Q (.bl (lett l)) H
theorem len_one {l : List Nat} (h : l.length = 1) : ∃ c, l = [c] := match l, h with | [c], _ => ⟨c, rfl⟩
theorem lett_no {l : List Nat} (h : l.length ≠ 1) : lett l = false := match l, h with | [], _ => rfl | [_], h => absurd rfl h | _ :: _ :: _, _ => rfl
theorem ok_is_letter (F : Fun K "is_letter" "is_letter" s_is_letter f fd) (B : Bl mg) (G : Gc K mg aF) : FnOk P w K mg base CX0 1 f fd p_is_letter spLett := by
  refine F.okQ sc_is_letter (fun vs H Q E h => ?_) (fun cdv A outer s H vs Q E hr h => ?_)
  · obtain ⟨l, rfl, _⟩ := h; rfl
  obtain ⟨l, rfl, hl, q⟩ := h
  refine ⟨_, (qb_one (qs_ret (q_and (q_cmp o_eq (q_callB c_len_str B.len PySem.boot_len (qa_cons (qv 0) qa_nil)) q_int) (q_one (q_cmp o_in_one (qv 0) (q_gc G.ALL_LETTERS)))))), ?_⟩
  simp only [tSortSet, tRevS, rSorted, tYes, tComp_def, cxOf, rLenQ, rLenS, rAddS, rLe1, rMax, rMin, rOrd, rInt1, tStrs, rIsi, if_true, if_false, Bool.false_eq_true, tTupF, tLstF, rAppendF, rPopF, rSetLF, rTupleOf, rListOf, rCatF, scal_ss, scal_ii, scal_bb, V_str_eq, V_int_eq, V_bl_eq, tML, tMS, tML0, rJoin, upd_same, upd_upd, HO.lst.injEq, exists_const, and_self, and_assoc, tSeq, tAsg, gName, tC, tVar, tOp, tUn, rI, rI0, rU, tTest, tB, tIfS, tRet, tRetN, tNext, tDrop, tCB, tCons, tNil, tTup, tLst, tCall, tBM, tBM0, tyV, rAppend, rPop, rEq, rNe, rIxL, rIxT, rIxS, tAnd, tOr, tNot, tAndV, tOrV, tNotV, tIf, tIsN, tNotN, tChain, tSl, tNoPart, tPart, rSlS, rInS, rCat, rCatT, gSub, rSetL, gTup, gCons, gNil, L2.start, List.map, List.length, List.replicate, List.getElem?_cons_zero, List.getElem?_cons_succ, List.set_cons_zero, List.set_cons_succ, List.cons_append, List.nil_append, List.append_nil, Option.some.injEq, exists_eq_left', V.ref.injEq, V.int.injEq, V.str.injEq, V.bl.injEq, V.ty.injEq, List.cons.injEq, and_true, true_and, exists_and_left, exists_eq_left, exists_eq', exists_eq_right, Nat.add_one_sub_one, Nat.sub_self, Nat.reduceAdd, Nat.reduceSub, tx_len, rInS]
  refine ⟨le_line (by omega), ?_⟩
  by_cases h1 : l.length = 1
  · obtain ⟨c, rfl⟩ := len_one h1
    refine if_tt (decide_eq_true rfl) ⟨c, rfl, abc, by rw [tx_lit], ?_⟩
    have e : decide (c ∈ abc) = lett [c] := by unfold lett; exact decide_eq_decide.mpr (mem_abc c)
    rw [e]; exact q
  · rw [lett_no h1] at q
    exact if_ff (by simp; omega) q
/-! ### in_order -/
structure Rise (m l : List Nat) : Prop where
  nd : m.Nodup
  up : m.Pairwise (· ≤ ·)
  mem : ∀ c, c ∈ m ↔ c ∈ l
theorem nodup_le : ∀ (l m : List Nat), m.Nodup → (∀ c ∈ m, c ∈ l) → m.length ≤ l.length
  | [], m, _, h => by
    match m, h with
    | [], _ => exact Nat.le_refl _
    | c :: r, h => exact absurd (h c List.mem_cons_self) List.not_mem_nil
  | a :: l, m, nd, h => by
    by_cases ha : a ∈ m
    · have := nodup_le l (m.erase a) (nd.erase a) fun c hc => by
        have hc' := nd.mem_erase_iff.mp hc
        rcases List.mem_cons.mp (h c hc'.2) with e | e
        · exact absurd e hc'.1
        · exact e
      rw [List.length_erase_of_mem ha] at this
      have hpos : 0 < m.length := List.length_pos_of_mem ha
      rw [List.length_cons]; omega
    · have := nodup_le l m nd fun c hc => by
        rcases List.mem_cons.mp (h c hc) with e | e
        · exact absurd (e ▸ hc) ha
        · exact e
      rw [List.length_cons]; omega
theorem rise_eq : ∀ (m m' : List Nat), m.Nodup → m'.Nodup → m.Pairwise (· ≤ ·) → m'.Pairwise (· ≤ ·) → (∀ c, c ∈ m ↔ c ∈ m') → m = m'
  | [], [], _, _, _, _, _ => rfl
  | [], y :: r, _, _, _, _, h => absurd ((h y).mpr List.mem_cons_self) List.not_mem_nil
  | x :: r, [], _, _, _, _, h => absurd ((h x).mp List.mem_cons_self) List.not_mem_nil
  | x :: r, y :: r', n1, n2, p1, p2, h => by
    obtain ⟨a1, a2⟩ := List.pairwise_cons.mp p1
    obtain ⟨b1, b2⟩ := List.pairwise_cons.mp p2
    obtain ⟨c1, c2⟩ := List.nodup_cons.mp n1
    obtain ⟨d1, d2⟩ := List.nodup_cons.mp n2
    have hxy : x = y := by
      have u1 : y ≤ x := by
        rcases List.mem_cons.mp ((h x).mp List.mem_cons_self) with e | e
        · exact Nat.le_of_eq e.symm
        · exact b1 x e
      have u2 : x ≤ y := by
        rcases List.mem_cons.mp ((h y).mpr List.mem_cons_self) with e | e
        · exact Nat.le_of_eq e.symm
        · exact a1 y e
      omega
    subst hxy
    refine congrArg _ (rise_eq r r' c2 d2 a2 b2 fun c => ⟨fun hc => ?_, fun hc => ?_⟩)
    · rcases List.mem_cons.mp ((h c).mp (List.mem_cons_of_mem _ hc)) with e | e
      · exact absurd (e ▸ hc) c1
      · exact e
    · rcases List.mem_cons.mp ((h c).mpr (List.mem_cons_of_mem _ hc)) with e | e
      · exact absurd (e ▸ hc) d1
      · exact e
theorem Rise.eq {m m' l l' : List Nat} (a : Rise m l) (b : Rise m' l') (h : ∀ c, c ∈ l ↔ c ∈ l') : m = m' := rise_eq m m' a.nd b.nd a.up b.up fun c => (a.mem c).trans ((h c).trans (b.mem c).symm)
theorem Rise.le {m l l' : List Nat} (a : Rise m l) (h : ∀ c ∈ l, c ∈ l') : m.length ≤ l'.length := nodup_le l' m a.nd fun c hc => h c ((a.mem c).mp hc)
def spOrd : Sp := fun vs H Q _ => ∃ l l0 : List Nat, vs = [.str (tx l)] ∧ l.length < 4000 ∧ l0.length < 64 ∧ (∀ c ∈ l, c ∈ l0) ∧ ∀ m, Rise m l → ∀ H', Same H H' → Q (.str (tx m)) H'
theorem ok_in_order (F : Fun K "in_order" "in_order" s_in_order f fd) (B : Bl mg) : FnOk P w K mg base CX0 1 f fd p_in_order spOrd := by
  refine F.okQ sc_in_order (fun vs H Q E h => ?_) (fun cdv A outer s H vs Q E hr h => ?_)
  · obtain ⟨l, l0, rfl, _⟩ := h; rfl
  obtain ⟨l, l0, rfl, h1, h2, h3, q⟩ := h
  refine ⟨_, (qb_one (qs_ret (q_ms PySem.F.slot_str_join PySem.F.type_str_join m_join q_str (qa_cons (q_sortSet B.sorted B.set (qv 0)) qa_nil)))), ?_⟩
  simp only [tSortSet, tRevS, rSorted, tYes, tComp_def, cxOf, rLenQ, rLenS, rAddS, rLe1, rMax, rMin, rOrd, rInt1, tStrs, rIsi, if_true, if_false, Bool.false_eq_true, tTupF, tLstF, rAppendF, rPopF, rSetLF, rTupleOf, rListOf, rCatF, scal_ss, scal_ii, scal_bb, V_str_eq, V_int_eq, V_bl_eq, tML, tMS, tML0, rJoin, upd_same, upd_upd, HO.lst.injEq, exists_const, and_self, and_assoc, tSeq, tAsg, gName, tC, tVar, tOp, tUn, rI, rI0, rU, tTest, tB, tIfS, tRet, tRetN, tNext, tDrop, tCB, tCons, tNil, tTup, tLst, tCall, tBM, tBM0, tyV, rAppend, rPop, rEq, rNe, rIxL, rIxT, rIxS, tAnd, tOr, tNot, tAndV, tOrV, tNotV, tIf, tIsN, tNotN, tChain, tSl, tNoPart, tPart, rSlS, rInS, rCat, rCatT, gSub, rSetL, gTup, gCons, gNil, L2.start, List.map, List.length, List.replicate, List.getElem?_cons_zero, List.getElem?_cons_succ, List.set_cons_zero, List.set_cons_succ, List.cons_append, List.nil_append, List.append_nil, Option.some.injEq, exists_eq_left', V.ref.injEq, V.int.injEq, V.str.injEq, V.bl.injEq, V.ty.injEq, List.cons.injEq, and_true, true_and, exists_and_left, exists_eq_left, exists_eq', exists_eq_right, Nat.add_one_sub_one, Nat.sub_self, Nat.reduceAdd, Nat.reduceSub]
  refine ⟨⟨[], tx_nil⟩, l, .inl rfl, h1, fun m nd hm => Nat.lt_of_le_of_lt (nodup_le l0 m nd fun c hc => h3 c (hm c hc)) h2, fun m nd up mem a H2 ha e2 => ?_⟩
  have R : Rise m l := ⟨nd, up, mem⟩
  have hml := R.le h3
  refine ⟨[], tx_nil, m.map fun c => [c], by rw [e2, List.map_map]; exact .of upd_same, by rw [ones_lens]; simp only [List.length_nil, Nat.mul_zero]; omega, ?_⟩
  rw [joinN_nil, ones_flat]
  exact q m R _ (by rw [e2]; exact same_new ha _)
/-! ### has_left, has_right -/
def spHas (K : PySem.W.Frag) (F : Nat → Bool) : Sp := fun vs H Q _ => ∃ (v : V) (p : Pl), vs = [v] ∧ PlAt K H p v ∧ ∀ H', Same H H' → Q (.bl (F p.1)) H'
theorem in13 (k : Int) (x y : Int) : inV (.int k) [.int x, .int y] = (decide (k = x) || decide (k = y)) := by
  show ((x == k) || ((y == k) || false)) = _
  have e : ∀ a : Int, (a == k) = decide (k = a) := fun a => by
    by_cases h : k = a
    · subst h; simp
    · rw [decide_eq_false h]; exact beq_eq_false_iff_ne.mpr fun z => h z.symm
  rw [e, e, Bool.or_false]
theorem ok_has_left (F : Fun K "has_left" "has_left" s_has_left f fd) : FnOk P w K mg base CX0 1 f fd p_has_left (spHas K hasL) := by
  refine F.okQ sc_has_left (fun vs H Q E h => ?_) (fun cdv A outer s H vs Q E hr h => ?_)
  · obtain ⟨v, p, rfl, _⟩ := h; rfl
  obtain ⟨v, p, rfl, ⟨q0, rfl, hq⟩, q⟩ := h
  refine ⟨_, (qb_one (qs_ret (q_cmp o_in_seq (q_ix i_tup (qv 0) q_int) (q_tup (qa_cons q_int (qa_cons q_int qa_nil)))))), ?_⟩
  simp only [tSortSet, tRevS, rSorted, tYes, tComp_def, cxOf, rLenQ, rLenS, rAddS, rLe1, rMax, rMin, rOrd, rInt1, tStrs, rIsi, if_true, if_false, Bool.false_eq_true, tTupF, tLstF, rAppendF, rPopF, rSetLF, rTupleOf, rListOf, rCatF, scal_ss, scal_ii, scal_bb, V_str_eq, V_int_eq, V_bl_eq, tML, tMS, tML0, rJoin, upd_same, upd_upd, HO.lst.injEq, exists_const, and_self, and_assoc, tSeq, tAsg, gName, tC, tVar, tOp, tUn, rI, rI0, rU, tTest, tB, tIfS, tRet, tRetN, tNext, tDrop, tCB, tCons, tNil, tTup, tLst, tCall, tBM, tBM0, tyV, rAppend, rPop, rEq, rNe, rIxL, rIxT, rIxS, tAnd, tOr, tNot, tAndV, tOrV, tNotV, tIf, tIsN, tNotN, tChain, tSl, tNoPart, tPart, rSlS, rInS, rCat, rCatT, gSub, rSetL, gTup, gCons, gNil, L2.start, List.map, List.length, List.replicate, List.getElem?_cons_zero, List.getElem?_cons_succ, List.set_cons_zero, List.set_cons_succ, List.cons_append, List.nil_append, List.append_nil, Option.some.injEq, exists_eq_left', V.ref.injEq, V.int.injEq, V.str.injEq, V.bl.injEq, V.ty.injEq, List.cons.injEq, and_true, true_and, exists_and_left, exists_eq_left, exists_eq', exists_eq_right, Nat.add_one_sub_one, Nat.sub_self, Nat.reduceAdd, Nat.reduceSub]
  refine ⟨_, hq, _, rfl, le_line (by decide), fun a H2 ha e2 => ?_⟩
  subst e2
  refine ⟨a, _, rfl, .inr SqT.new, rfl, rfl, ?_⟩
  rw [if_neg Bool.false_ne_true, in13]
  have e : (decide ((p.1 : Int) = 1) || decide ((p.1 : Int) = 3)) = hasL p.1 := by unfold hasL; congr 1 <;> (apply decide_eq_decide.mpr; omega)
  rw [e]
  exact q _ (same_new ha _)
theorem ok_has_right (F : Fun K "has_right" "has_right" s_has_right f fd) : FnOk P w K mg base CX0 1 f fd p_has_right (spHas K hasR) := by
  refine F.okQ sc_has_right (fun vs H Q E h => ?_) (fun cdv A outer s H vs Q E hr h => ?_)
  · obtain ⟨v, p, rfl, _⟩ := h; rfl
  obtain ⟨v, p, rfl, ⟨q0, rfl, hq⟩, q⟩ := h
  refine ⟨_, (qb_one (qs_ret (q_cmp o_in_seq (q_ix i_tup (qv 0) q_int) (q_tup (qa_cons q_int (qa_cons q_int qa_nil)))))), ?_⟩
  simp only [tSortSet, tRevS, rSorted, tYes, tComp_def, cxOf, rLenQ, rLenS, rAddS, rLe1, rMax, rMin, rOrd, rInt1, tStrs, rIsi, if_true, if_false, Bool.false_eq_true, tTupF, tLstF, rAppendF, rPopF, rSetLF, rTupleOf, rListOf, rCatF, scal_ss, scal_ii, scal_bb, V_str_eq, V_int_eq, V_bl_eq, tML, tMS, tML0, rJoin, upd_same, upd_upd, HO.lst.injEq, exists_const, and_self, and_assoc, tSeq, tAsg, gName, tC, tVar, tOp, tUn, rI, rI0, rU, tTest, tB, tIfS, tRet, tRetN, tNext, tDrop, tCB, tCons, tNil, tTup, tLst, tCall, tBM, tBM0, tyV, rAppend, rPop, rEq, rNe, rIxL, rIxT, rIxS, tAnd, tOr, tNot, tAndV, tOrV, tNotV, tIf, tIsN, tNotN, tChain, tSl, tNoPart, tPart, rSlS, rInS, rCat, rCatT, gSub, rSetL, gTup, gCons, gNil, L2.start, List.map, List.length, List.replicate, List.getElem?_cons_zero, List.getElem?_cons_succ, List.set_cons_zero, List.set_cons_succ, List.cons_append, List.nil_append, List.append_nil, Option.some.injEq, exists_eq_left', V.ref.injEq, V.int.injEq, V.str.injEq, V.bl.injEq, V.ty.injEq, List.cons.injEq, and_true, true_and, exists_and_left, exists_eq_left, exists_eq', exists_eq_right, Nat.add_one_sub_one, Nat.sub_self, Nat.reduceAdd, Nat.reduceSub]
  refine ⟨_, hq, _, rfl, le_line (by decide), fun a H2 ha e2 => ?_⟩
  subst e2
  refine ⟨a, _, rfl, .inr SqT.new, rfl, rfl, ?_⟩
  rw [if_neg Bool.false_ne_true, in13]
  have e : (decide ((p.1 : Int) = 2) || decide ((p.1 : Int) = 3)) = hasR p.1 := by unfold hasR; congr 1 <;> (apply decide_eq_decide.mpr; omega)
  rw [e]
  exact q _ (same_new ha _)
/-! ### is_row -/
def RowOk (l : List Nat) : Prop := (∀ c ∈ l, isL c) ∧ l.Pairwise (· < ·)
theorem RowOk.le {l : List Nat} (h : RowOk l) : l.length ≤ 52 := by
  have := nodup_le abc l (h.2.imp fun z => Nat.ne_of_lt z) fun c hc => (mem_abc c).mpr (h.1 c hc)
  rwa [abc_len] at this
theorem RowOk.rise {l m : List Nat} (h : RowOk l) (r : Rise m l) : m = l := rise_eq m l r.nd (h.2.imp fun z => Nat.ne_of_lt z) r.up (h.2.imp fun z => Nat.le_of_lt z) r.mem
def spRow : Sp := fun vs H Q _ => ∃ l : List Nat, vs = [.str (tx l)] ∧ RowOk l ∧ ∀ H', Same H H' → Q (.bl true) H'
theorem ok_is_row (F : Fun K "is_row" "is_row" s_is_row f fd) (B : Bl mg) (h_is_letter : Has P w K mg base 1 "is_letter" p_is_letter spLett) (h_in_order : Has P w K mg base 1 "in_order" p_in_order spOrd) : FnOk P w K mg base CX0 2 f fd p_is_row spRow := by
  refine F.okQ sc_is_row (fun vs H Q E h => ?_) (fun cdv A outer s H vs Q E hr h => ?_)
  · obtain ⟨l, rfl, _⟩ := h; rfl
  obtain ⟨l, rfl, hl, q⟩ := h
  have hle := hl.le
  refine ⟨_, (qb_one (qs_ret (q_and (q_callB c_all B.all boot_all (qa_cons (q_comp (m := 0) (nm := ["sign"]) (cap := [none]) rfl rfl rfl (by first | rfl | kernel_rfl) (qi_str (qv 0)) (fun _ _ _ _ _ => (qg_name (i := 0) (show List.Nodup (["sign"] : List Str) from by decide +kernel) rfl (Or.inl rfl))) (fun _ _ _ _ _ => qts_nil) (fun _ _ _ _ _ => (q_has h_is_letter hr (by omega) (qa_cons (qv 0) qa_nil)))) qa_nil)) (q_one (q_cmp o_eq (q_has h_in_order hr (by omega) (qa_cons (qv 0) qa_nil)) (qv 0)))))), ?_⟩
  simp only [tSortSet, tRevS, rSorted, tYes, tComp_def, cxOf, rLenQ, rLenS, rAddS, rLe1, rMax, rMin, rOrd, rInt1, tStrs, rIsi, if_true, if_false, Bool.false_eq_true, tTupF, tLstF, rAppendF, rPopF, rSetLF, rTupleOf, rListOf, rCatF, scal_ss, scal_ii, scal_bb, V_str_eq, V_int_eq, V_bl_eq, tML, tMS, tML0, rJoin, upd_same, upd_upd, HO.lst.injEq, exists_const, and_self, and_assoc, tSeq, tAsg, gName, tC, tVar, tOp, tUn, rI, rI0, rU, tTest, tB, tIfS, tRet, tRetN, tNext, tDrop, tCB, tCons, tNil, tTup, tLst, tCall, tBM, tBM0, tyV, rAppend, rPop, rEq, rNe, rIxL, rIxT, rIxS, tAnd, tOr, tNot, tAndV, tOrV, tNotV, tIf, tIsN, tNotN, tChain, tSl, tNoPart, tPart, rSlS, rInS, rCat, rCatT, gSub, rSetL, gTup, gCons, gNil, L2.start, List.map, List.length, List.replicate, List.getElem?_cons_zero, List.getElem?_cons_succ, List.set_cons_zero, List.set_cons_succ, List.cons_append, List.nil_append, List.append_nil, Option.some.injEq, exists_eq_left', V.ref.injEq, V.int.injEq, V.str.injEq, V.bl.injEq, V.ty.injEq, List.cons.injEq, and_true, true_and, exists_and_left, exists_eq_left, exists_eq', exists_eq_right, Nat.add_one_sub_one, Nat.sub_self, Nat.reduceAdd, Nat.reduceSub, rAll]
  refine ⟨_, rfl, l, rfl, comp_vals (vals := signsV l) (by unfold signsV; rw [List.length_map]; exact le_line (by omega)) (fun i ys Hc => Hc = H ∧ ys = (List.replicate i true).map V.bl) ⟨rfl, rfl⟩ ?_ ?_⟩
  · rintro i v ys Hc hv hy ⟨rfl, rfl⟩
    obtain ⟨c, rfl, hc⟩ : ∃ c, v = .str (tx [c]) ∧ isL c := by
      have hmx := List.mem_of_getElem? hv
      unfold signsV at hmx
      obtain ⟨c', hc', rfl⟩ := List.mem_map.mp hmx
      exact ⟨c', rfl, hl.1 c' hc'⟩
    have e2 : lett [c] = true := decide_eq_true hc
    simp only [tSortSet, tRevS, rSorted, tYes, tComp_def, cxOf, rLenQ, rLenS, rAddS, rLe1, rMax, rMin, rOrd, rInt1, tStrs, rIsi, if_true, if_false, Bool.false_eq_true, tTupF, tLstF, rAppendF, rPopF, rSetLF, rTupleOf, rListOf, rCatF, scal_ss, scal_ii, scal_bb, V_str_eq, V_int_eq, V_bl_eq, tML, tMS, tML0, rJoin, upd_same, upd_upd, HO.lst.injEq, exists_const, and_self, and_assoc, tSeq, tAsg, gName, tC, tVar, tOp, tUn, rI, rI0, rU, tTest, tB, tIfS, tRet, tRetN, tNext, tDrop, tCB, tCons, tNil, tTup, tLst, tCall, tBM, tBM0, tyV, rAppend, rPop, rEq, rNe, rIxL, rIxT, rIxS, tAnd, tOr, tNot, tAndV, tOrV, tNotV, tIf, tIsN, tNotN, tChain, tSl, tNoPart, tPart, rSlS, rInS, rCat, rCatT, gSub, rSetL, gTup, gCons, gNil, L2.start, List.map, List.length, List.replicate, List.getElem?_cons_zero, List.getElem?_cons_succ, List.set_cons_zero, List.set_cons_succ, List.cons_append, List.nil_append, List.append_nil, Option.some.injEq, exists_eq_left', V.ref.injEq, V.int.injEq, V.str.injEq, V.bl.injEq, V.ty.injEq, List.cons.injEq, and_true, true_and, exists_and_left, exists_eq_left, exists_eq', exists_eq_right, Nat.add_one_sub_one, Nat.sub_self, Nat.reduceAdd, Nat.reduceSub, capSt, Option.bind, Option.join, spLett]
    refine ⟨[c], rfl, by simp, ?_⟩
    rw [e2]
    rw [List.map_replicate, ← List.replicate_succ', List.replicate_succ]
  · rintro ys H2 hy ⟨rfl, rfl⟩ p H3 hp e3
    refine ⟨p, rfl, List.replicate _ true, by rw [e3]; exact .of upd_same, if_tt (by simp) ?_⟩
    refine ⟨l, l, rfl, by omega, by omega, fun _ z => z, fun m R H4 s4 => ⟨rfl, ?_⟩⟩
    rw [hl.rise R, decide_eq_true rfl]
    exact q _ (Same.trans (by rw [e3]; exact same_new hp _) s4)
/-! ### is_whole, is_place -/
def spWhole : Sp := fun vs H Q _ => ∃ i : Int, vs = [.int i] ∧ Q (.bl true) H
theorem ok_is_whole (F : Fun K "is_whole" "is_whole" s_is_whole f fd) (B : Bl mg) : FnOk P w K mg base CX0 1 f fd p_is_whole spWhole := by
  refine F.okQ sc_is_whole (fun vs H Q E h => ?_) (fun cdv A outer s H vs Q E hr h => ?_)
  · obtain ⟨i, rfl, _⟩ := h; rfl
  obtain ⟨i, rfl, q⟩ := h
  refine ⟨_, (qb_one (qs_ret (q_and (q_callB c_isi B.isinstance boot_isinstance (qa_cons (qv 0) (qa_cons (q_ty B.int boot_int) qa_nil))) (q_one (q_not (q_callB c_isi B.isinstance boot_isinstance (qa_cons (qv 0) (qa_cons (q_ty B.bool boot_bool) qa_nil)))))))), ?_⟩
  simp only [tSortSet, tRevS, rSorted, tYes, tComp_def, cxOf, rLenQ, rLenS, rAddS, rLe1, rMax, rMin, rOrd, rInt1, tStrs, rIsi, if_true, if_false, Bool.false_eq_true, tTupF, tLstF, rAppendF, rPopF, rSetLF, rTupleOf, rListOf, rCatF, scal_ss, scal_ii, scal_bb, V_str_eq, V_int_eq, V_bl_eq, tML, tMS, tML0, rJoin, upd_same, upd_upd, HO.lst.injEq, exists_const, and_self, and_assoc, tSeq, tAsg, gName, tC, tVar, tOp, tUn, rI, rI0, rU, tTest, tB, tIfS, tRet, tRetN, tNext, tDrop, tCB, tCons, tNil, tTup, tLst, tCall, tBM, tBM0, tyV, rAppend, rPop, rEq, rNe, rIxL, rIxT, rIxS, tAnd, tOr, tNot, tAndV, tOrV, tNotV, tIf, tIsN, tNotN, tChain, tSl, tNoPart, tPart, rSlS, rInS, rCat, rCatT, gSub, rSetL, gTup, gCons, gNil, L2.start, List.map, List.length, List.replicate, List.getElem?_cons_zero, List.getElem?_cons_succ, List.set_cons_zero, List.set_cons_succ, List.cons_append, List.nil_append, List.append_nil, Option.some.injEq, exists_eq_left', V.ref.injEq, V.int.injEq, V.str.injEq, V.bl.injEq, V.ty.injEq, List.cons.injEq, and_true, true_and, exists_and_left, exists_eq_left, exists_eq', exists_eq_right, Nat.add_one_sub_one, Nat.sub_self, Nat.reduceAdd, Nat.reduceSub]
  have hd : Dp K H (.int i) (.int i) := by unfold Dp; rfl
  exact ⟨_, hd, .inr (.inr (.inl rfl)), if_tt rfl ⟨_, hd, .inr (.inl rfl), q⟩⟩
def spPlace (K : PySem.W.Frag) : Sp := fun vs H Q _ => ∃ (v : V) (p : Pl), vs = [v] ∧ PlAt K H p v ∧ p.1 ≤ 3 ∧ RowOk p.2 ∧ ∀ H', Same H H' → Q (.bl true) H'
theorem ok_is_place (F : Fun K "is_place" "is_place" s_is_place f fd) (B : Bl mg) (h_is_whole : Has P w K mg base 1 "is_whole" p_is_whole spWhole) (h_is_row : Has P w K mg base 2 "is_row" p_is_row spRow) : FnOk P w K mg base CX0 3 f fd p_is_place (spPlace K) := by
  refine F.okQ sc_is_place (fun vs H Q E h => ?_) (fun cdv A outer s H vs Q E hr h => ?_)
  · obtain ⟨v, p, rfl, _⟩ := h; rfl
  obtain ⟨v, p, rfl, ⟨q0, rfl, hq⟩, h3, hrow, q⟩ := h
  refine ⟨_, (qb_cons (qs_if (qt_w (qw_or (qt_not (qt_val (q_callB c_isi B.isinstance boot_isinstance (qa_cons (qv 0) (qa_cons (q_ty B.tuple boot_tuple) qa_nil))))) (qw_or1 (qt_cmp o_ne (q_callB c_len_seq B.len PySem.boot_len (qa_cons (qv 0) qa_nil)) q_int)))) (qb_one (qs_ret q_bl)) qb_nil) (qb_cons (qs_if (qt_w (qw_or (qt_not (qt_val (q_has h_is_whole hr (by omega) (qa_cons (q_ix i_tup (qv 0) q_int) qa_nil)))) (qw_or1 (qt_not (qt_val (q_callB c_isi B.isinstance boot_isinstance (qa_cons (q_ix i_tup (qv 0) q_int) (qa_cons (q_ty B.str boot_str) qa_nil)))))))) (qb_one (qs_ret q_bl)) qb_nil) (qb_one (qs_ret (q_and (q_chain o_le o_le q_int (q_ix i_tup (qv 0) q_int) q_int) (q_one (q_has h_is_row hr (by omega) (qa_cons (q_ix i_tup (qv 0) q_int) qa_nil)))))))), ?_⟩
  simp only [tSortSet, tRevS, rSorted, tYes, tComp_def, cxOf, rLenQ, rLenS, rAddS, rLe1, rMax, rMin, rOrd, rInt1, tStrs, rIsi, if_true, if_false, Bool.false_eq_true, tTupF, tLstF, rAppendF, rPopF, rSetLF, rTupleOf, rListOf, rCatF, scal_ss, scal_ii, scal_bb, V_str_eq, V_int_eq, V_bl_eq, tML, tMS, tML0, rJoin, upd_same, upd_upd, HO.lst.injEq, exists_const, and_self, and_assoc, tSeq, tAsg, gName, tC, tVar, tOp, tUn, rI, rI0, rU, tTest, tB, tIfS, tRet, tRetN, tNext, tDrop, tCB, tCons, tNil, tTup, tLst, tCall, tBM, tBM0, tyV, rAppend, rPop, rEq, rNe, rIxL, rIxT, rIxS, tAnd, tOr, tNot, tAndV, tOrV, tNotV, tIf, tIsN, tNotN, tChain, tSl, tNoPart, tPart, rSlS, rInS, rCat, rCatT, gSub, rSetL, gTup, gCons, gNil, L2.start, List.map, List.length, List.replicate, List.getElem?_cons_zero, List.getElem?_cons_succ, List.set_cons_zero, List.set_cons_succ, List.cons_append, List.nil_append, List.append_nil, Option.some.injEq, exists_eq_left', V.ref.injEq, V.int.injEq, V.str.injEq, V.bl.injEq, V.ty.injEq, List.cons.injEq, and_true, true_and, exists_and_left, exists_eq_left, exists_eq', exists_eq_right, Nat.add_one_sub_one, Nat.sub_self, Nat.reduceAdd, Nat.reduceSub, spWhole, spRow]
  have d0 : Dp K H (.int p.1) (.int p.1) := by unfold Dp; rfl
  have d1 : Dp K H (.str p.2) (.str (tx p.2)) := by unfold Dp; rfl
  have hd : Dp K H (D.tup [.int p.1, .str p.2]) (.ref q0) := Dp.tupI hq (.cons d0 (.cons d1 .nil))
  exact ⟨_, hd, .inl rfl, if_ff rfl ⟨_, .inr hq, if_ff rfl ⟨_, hq, _, rfl, _, rfl, if_ff rfl ⟨_, hq, _, rfl, _, d1, .inr (.inr (.inr rfl)), if_ff rfl ⟨_, hq, _, rfl, _, rfl, if_tt (decide_eq_true (by omega)) ⟨_, rfl, if_tt (decide_eq_true (by omega)) ⟨_, hq, _, rfl, p.2, rfl, hrow, q⟩⟩⟩⟩⟩⟩⟩
end
end P
set_option Elab.async false
set_option linter.all false
set_option maxRecDepth 100000
set_option maxHeartbeats 4000000
namespace P
open PySem L2
open PyProof.Rows (boot_sorted boot_set boot_ord boot_all boot_enumerate boot_int boot_str boot_bool boot_list boot_tuple boot_isinstance boot_max boot_min)
section
variable {P : Program} {w : World} {K : PySem.W.Frag} {mg : Str → Option Value} {base : Heap} {f : Addr} {fd : FuncData}
/-! ### is_tree -/
def PlOk (p : Pl) : Prop := p.1 ≤ 3 ∧ RowOk p.2
def spTree (K : PySem.W.Frag) : Sp := fun vs H Q _ => ∃ (v : V) (T : List Pl), vs = [v] ∧ TrAt K H T v ∧ (∀ p ∈ T, PlOk p) ∧ T.length ≤ 1000 ∧ ∀ H', Same H H' → Q (.bl (decide (TreeOk (T.map (·.1))))) H'
theorem ok_is_tree (F : Fun K "is_tree" "is_tree" s_is_tree f fd) (B : Bl mg) (h_is_place : Has P w K mg base 3 "is_place" p_is_place (spPlace K)) (h_has_left : Has P w K mg base 1 "has_left" p_has_left (spHas K hasL)) (h_has_right : Has P w K mg base 1 "has_right" p_has_right (spHas K hasR)) :
    FnOk P w K mg base CX0 4 f fd p_is_tree (spTree K) := by
  refine F.okQ sc_is_tree (fun vs H Q E h => ?_) (fun cdv A outer s H vs Q E hr h => ?_)
  · obtain ⟨v, T, rfl, _⟩ := h; rfl
  obtain ⟨v, T, rfl, ⟨a, vs, rfl, hS, hp⟩, hok, hlen, q⟩ := h
  have hvl := Paired.length hp
  refine ⟨_, (qb_cons (qs_set (i := 1) sc_is_tree.nd rfl (Or.inl rfl) q_int) (qb_cons (qs_for PassesOwn.never rfl (qi_tup (qv 0)) (qg_name (i := 2) sc_is_tree.nd rfl (Or.inl rfl)) (qb_cons (qs_if (qt_not (qt_val (q_has h_is_place hr (by omega) (qa_cons (qv 2) qa_nil)))) (qb_one (qs_ret q_bl)) qb_nil) (qb_cons (qs_if (qt_val (q_has h_has_left hr (by omega) (qa_cons (qv 2) qa_nil))) (qb_one (qs_set (i := 1) sc_is_tree.nd rfl (Or.inl rfl) (q_op o_sub (qv 1) q_int))) qb_nil) (qb_cons (qs_if (qt_val (q_has h_has_right hr (by omega) (qa_cons (qv 2) qa_nil))) (qb_one (qs_set (i := 1) sc_is_tree.nd rfl (Or.inl rfl) (q_op o_sub (qv 1) q_int))) qb_nil) (qb_cons (qs_if (qt_cmp o_lt (qv 1) q_int) (qb_one (qs_ret q_bl)) qb_nil) (qb_one (qs_set (i := 1) sc_is_tree.nd rfl (Or.inl rfl) (q_op o_add (qv 1) q_int)))))))) (qb_one (qs_ret (q_or (q_cmp o_eq (q_callB c_len_seq B.len PySem.boot_len (qa_cons (qv 0) qa_nil)) q_int) (q_one (q_cmp o_eq (qv 1) q_int))))))), ?_⟩
  simp only [tSortSet, tRevS, rSorted, tYes, tComp_def, cxOf, rLenQ, rLenS, rAddS, rLe1, rMax, rMin, rOrd, rInt1, tStrs, rIsi, if_true, if_false, Bool.false_eq_true, tTupF, tLstF, rAppendF, rPopF, rSetLF, rTupleOf, rListOf, rCatF, scal_ss, scal_ii, scal_bb, V_str_eq, V_int_eq, V_bl_eq, tML, tMS, tML0, rJoin, upd_same, upd_upd, HO.lst.injEq, exists_const, and_self, and_assoc, tSeq, tAsg, gName, tC, tVar, tOp, tUn, rI, rI0, rU, tTest, tB, tIfS, tRet, tRetN, tNext, tDrop, tCB, tCons, tNil, tTup, tLst, tCall, tBM, tBM0, tyV, rAppend, rPop, rEq, rNe, rIxL, rIxT, rIxS, tAnd, tOr, tNot, tAndV, tOrV, tNotV, tIf, tIsN, tNotN, tChain, tSl, tNoPart, tPart, rSlS, rInS, rCat, rCatT, gSub, rSetL, gTup, gCons, gNil, L2.start, List.map, List.length, List.replicate, List.getElem?_cons_zero, List.getElem?_cons_succ, List.set_cons_zero, List.set_cons_succ, List.cons_append, List.nil_append, List.append_nil, Option.some.injEq, exists_eq_left', V.ref.injEq, V.int.injEq, V.str.injEq, V.bl.injEq, V.ty.injEq, List.cons.injEq, and_true, true_and, exists_and_left, exists_eq_left, exists_eq', exists_eq_right, Nat.add_one_sub_one, Nat.sub_self, Nat.reduceAdd, Nat.reduceSub]
  refine ⟨_, rfl, a, rfl, ⟨_, hS⟩, ?_⟩
  refine for_tup (xs := vs) (fun i σ Hc => ∃ o2 : Option V, σ = [some (.ref a), some (.int (stand ((T.map (·.1)).take i))), o2] ∧ Same H Hc ∧ ∀ j, j < i → 1 ≤ stand ((T.map (·.1)).take (j + 1)))
    ⟨none, rfl, Same.refl _, fun j h => absurd h (Nat.not_lt_zero j)⟩ (fun i σ Hc _ ⟨_, _, e, _⟩ => SqT.same e _ _ hS) ?_ ?_
  · rintro i x σ Hc hx ⟨o2, rfl, sm, hall⟩
    have hi : i < T.length := by rw [hvl]; exact (List.getElem?_eq_some_iff.mp hx).1
    obtain ⟨y, hy, hpl⟩ := Paired.getE hp (List.getElem?_eq_getElem hi)
    rw [hx] at hy; cases hy
    have hpo := hok _ (List.getElem_mem hi)
    have hb : (T.map (·.1))[i]? = some T[i].1 := by rw [List.getElem?_map, List.getElem?_eq_getElem hi]; rfl
    have hil : i < (T.map (·.1)).length := by rw [List.length_map]; exact hi
    have st := stand_next hb
    have lr := need_lr hpo.1
    simp only [tSortSet, tRevS, rSorted, tYes, tComp_def, cxOf, rLenQ, rLenS, rAddS, rLe1, rMax, rMin, rOrd, rInt1, tStrs, rIsi, if_true, if_false, Bool.false_eq_true, tTupF, tLstF, rAppendF, rPopF, rSetLF, rTupleOf, rListOf, rCatF, scal_ss, scal_ii, scal_bb, V_str_eq, V_int_eq, V_bl_eq, tML, tMS, tML0, rJoin, upd_same, upd_upd, HO.lst.injEq, exists_const, and_self, and_assoc, tSeq, tAsg, gName, tC, tVar, tOp, tUn, rI, rI0, rU, tTest, tB, tIfS, tRet, tRetN, tNext, tDrop, tCB, tCons, tNil, tTup, tLst, tCall, tBM, tBM0, tyV, rAppend, rPop, rEq, rNe, rIxL, rIxT, rIxS, tAnd, tOr, tNot, tAndV, tOrV, tNotV, tIf, tIsN, tNotN, tChain, tSl, tNoPart, tPart, rSlS, rInS, rCat, rCatT, gSub, rSetL, gTup, gCons, gNil, L2.start, List.map, List.length, List.replicate, List.getElem?_cons_zero, List.getElem?_cons_succ, List.set_cons_zero, List.set_cons_succ, List.cons_append, List.nil_append, List.append_nil, Option.some.injEq, exists_eq_left', V.ref.injEq, V.int.injEq, V.str.injEq, V.bl.injEq, V.ty.injEq, List.cons.injEq, and_true, true_and, exists_and_left, exists_eq_left, exists_eq', exists_eq_right, Nat.add_one_sub_one, Nat.sub_self, Nat.reduceAdd, Nat.reduceSub, spPlace, spHas]
    refine ⟨_, hpl.mono (SqT.same sm), hpo.1, hpo.2, fun H1 s1 => if_ff rfl ⟨_, hpl.mono (SqT.same (sm.trans s1)), fun H2 s2 => ?_⟩⟩
    have s12 := sm.trans (s1.trans s2)
    have hpl2 := hpl.mono (SqT.same s12)
    generalize stand ((T.map (·.1)).take i) = y0 at st ⊢
    have fin : ∀ (y : Int) (H' : Hp), Same H H' → y = y0 - need T[i].1 → (if decide (y < 0) = true then Q (V.bl false) H' else y + 1 = stand ((T.map (·.1)).take (i + 1)) ∧ Same H H' ∧ ∀ j, j < i + 1 → 1 ≤ stand ((T.map (·.1)).take (j + 1))) := fun y H' s' ey => by
      refine ite2 (fun c => ?_) (fun c => ?_)
      · have c : y < 0 := by simpa using c
        have := q H' s'
        rw [tree_no hil (by rw [st]; omega)] at this; exact this
      · have c : ¬ y < 0 := by simpa using c
        refine ⟨by rw [st]; omega, s', fun j hj => ?_⟩
        by_cases e : j < i
        · exact hall j e
        · have : j = i := by omega
          subst this; rw [st]; omega
    exact ite2 (fun cl => ⟨_, hpl2, fun H3 s3 => ite2 (fun cr => fin _ _ (s12.trans s3) (by rw [lr, if_pos cl, if_pos cr]; omega)) (fun cr => fin _ _ (s12.trans s3) (by rw [lr, if_pos cl, if_neg cr]; omega))⟩)
      (fun cl => ⟨_, hpl2, fun H3 s3 => ite2 (fun cr => fin _ _ (s12.trans s3) (by rw [lr, if_neg cl, if_pos cr]; omega)) (fun cr => fin _ _ (s12.trans s3) (by rw [lr, if_neg cl, if_neg cr]; omega))⟩)
  · rintro σ Hc ⟨o2, rfl, sm, hall⟩
    have hle : (T.map (·.1)).length = vs.length := by rw [List.length_map, hvl]
    have te := tree_end (bs := T.map (·.1)) fun j hj => hall j (by omega)
    have tk : (T.map (·.1)).take vs.length = T.map (·.1) := by rw [← hle, List.take_length]
    rw [tk]
    have q := q Hc sm
    rw [te, hle] at q
    simp only [tSortSet, tRevS, rSorted, tYes, tComp_def, cxOf, rLenQ, rLenS, rAddS, rLe1, rMax, rMin, rOrd, rInt1, tStrs, rIsi, if_true, if_false, Bool.false_eq_true, tTupF, tLstF, rAppendF, rPopF, rSetLF, rTupleOf, rListOf, rCatF, scal_ss, scal_ii, scal_bb, V_str_eq, V_int_eq, V_bl_eq, tML, tMS, tML0, rJoin, upd_same, upd_upd, HO.lst.injEq, exists_const, and_self, and_assoc, tSeq, tAsg, gName, tC, tVar, tOp, tUn, rI, rI0, rU, tTest, tB, tIfS, tRet, tRetN, tNext, tDrop, tCB, tCons, tNil, tTup, tLst, tCall, tBM, tBM0, tyV, rAppend, rPop, rEq, rNe, rIxL, rIxT, rIxS, tAnd, tOr, tNot, tAndV, tOrV, tNotV, tIf, tIsN, tNotN, tChain, tSl, tNoPart, tPart, rSlS, rInS, rCat, rCatT, gSub, rSetL, gTup, gCons, gNil, L2.start, List.map, List.length, List.replicate, List.getElem?_cons_zero, List.getElem?_cons_succ, List.set_cons_zero, List.set_cons_succ, List.cons_append, List.nil_append, List.append_nil, Option.some.injEq, exists_eq_left', V.ref.injEq, V.int.injEq, V.str.injEq, V.bl.injEq, V.ty.injEq, List.cons.injEq, and_true, true_and, exists_and_left, exists_eq_left, exists_eq', exists_eq_right, Nat.add_one_sub_one, Nat.sub_self, Nat.reduceAdd, Nat.reduceSub]
    refine ⟨_, .inr (SqT.same sm _ _ hS), ?_⟩
    refine ite2 (fun c => ?_) (fun c => ?_)
    · have c : vs.length = 0 := by simpa using c
      rw [decide_eq_true c, Bool.true_or] at q; exact q
    · have c : ¬ vs.length = 0 := by simpa using c
      rw [decide_eq_false c, Bool.false_or] at q; exact q
theorem pr_set {α β : Type} {R : α → β → Prop} : ∀ {xs : List α} {ys : List β} {a : α} {b : β} (i : Nat), Paired R xs ys → R a b → Paired R (xs.set i a) (ys.set i b)
  | _, _, _, _, _, .nil, _ => .nil
  | _, _, _, _, 0, .cons _ t, h => .cons h t
  | _, _, _, _, i + 1, .cons r t, h => .cons r (pr_set i t h)
theorem pr_take {α β : Type} {R : α → β → Prop} : ∀ {xs : List α} {ys : List β} (i : Nat), Paired R xs ys → Paired R (xs.take i) (ys.take i)
  | _, _, 0, _ => .nil
  | _, _, _ + 1, .nil => .nil
  | _, _, i + 1, .cons r t => .cons r (pr_take i t)
theorem pr_drop {α β : Type} {R : α → β → Prop} : ∀ {xs : List α} {ys : List β} (i : Nat), Paired R xs ys → Paired R (xs.drop i) (ys.drop i)
  | _, _, 0, h => h
  | _, _, _ + 1, .nil => .nil
  | _, _, i + 1, .cons _ t => pr_drop i t
theorem pr_app {α β : Type} {R : α → β → Prop} : ∀ {a b : List α} {c d : List β}, Paired R a c → Paired R b d → Paired R (a ++ b) (c ++ d)
  | _, _, _, _, .nil, h => h
  | _, _, _, _, .cons h t, k => .cons h (pr_app t k)
theorem cut_to {xs : List V} {k : Nat} (h : k ≤ xs.length) : cutV xs none (some (k : Int)) = xs.take k := by
  unfold cutV
  rw [HT.sIx_none, HT.sIx_nat, Nat.min_eq_left h, List.drop_zero, Nat.sub_zero]
theorem cut_fr {xs : List V} {k : Nat} (h : k ≤ xs.length) : cutV xs (some (k : Int)) none = xs.drop k := by
  unfold cutV
  rw [HT.sIx_none, HT.sIx_nat, Nat.min_eq_left h, List.take_of_length_le (by simp)]
theorem ixN_at {n k : Nat} (h : k < n) : ixN n (k : Int) = some k := by
  unfold ixN
  rw [if_pos (by omega), if_pos (by omega)]
  simp
theorem mod_at (z : Int) {n : Nat} (h : 0 < n) : ∃ k : Nat, z % (n : Int) = (k : Int) ∧ k < n := by
  have h0 : 0 ≤ z % (n : Int) := Int.emod_nonneg _ (by omega)
  have h1 : z % (n : Int) < n := Int.emod_lt_of_pos _ (by omega)
  exact ⟨(z % (n : Int)).toNat, by omega, by omega⟩
theorem row_nil : RowOk [] := ⟨fun _ h => absurd h List.not_mem_nil, .nil⟩
end
end P
set_option Elab.async false
set_option linter.all false
set_option maxRecDepth 100000
set_option maxHeartbeats 4000000
namespace P
open PySem L2
open PyProof.Rows (boot_sorted boot_set boot_ord boot_all boot_enumerate boot_int boot_str boot_bool boot_list boot_tuple boot_isinstance boot_max boot_min)
/-! ### what a tree is written as -/
def wd (p : Pl) : List Nat := (48 + p.1) :: p.2
def textM (T : List Pl) : List Nat := if T.length = 0 then [45] else joinN [32] (T.map wd)
theorem PlOk.free {p : Pl} (h : PlOk p) : 32 ∉ wd p := by
  intro z
  rcases List.mem_cons.mp z with e | e
  · omega
  · have := h.2.1 32 e
    unfold isL at this; omega
theorem joinN_snoc {c : Nat} {w : List Nat} : ∀ {ws : List (List Nat)}, ws ≠ [] → joinN [c] (ws ++ [w]) = joinN [c] ws ++ c :: w
  | [], h => absurd rfl h
  | [x], _ => by show x ++ [c] ++ w = x ++ c :: w; simp
  | x :: y :: r, _ => by
    have ih := joinN_snoc (c := c) (w := w) (ws := y :: r) (by simp)
    show x ++ [c] ++ joinN [c] (y :: r ++ [w]) = (x ++ [c] ++ joinN [c] (y :: r)) ++ c :: w
    rw [ih]; simp
theorem joinN_count {c : Nat} : ∀ {ws : List (List Nat)}, (∀ w ∈ ws, c ∉ w) → (joinN [c] ws).count c = ws.length - 1
  | [], _ => rfl
  | [x], h => by
    show x.count c = 0
    exact List.count_eq_zero.mpr (h x List.mem_cons_self)
  | x :: y :: r, h => by
    have ih := joinN_count (c := c) (ws := y :: r) fun w hw => h w (List.mem_cons_of_mem _ hw)
    rw [joinN_tail, List.count_append, List.count_eq_zero.mpr (h x List.mem_cons_self), List.count_cons, ih]
    simp
theorem joinN_len {c : Nat} {n : Nat} : ∀ {ws : List (List Nat)}, (∀ w ∈ ws, w.length ≤ n) → (joinN [c] ws).length ≤ ws.length * (n + 1)
  | [], _ => Nat.zero_le _
  | [x], h => by
    show x.length ≤ 1 * (n + 1)
    have := h x List.mem_cons_self; omega
  | x :: y :: r, h => by
    have ih := joinN_len (c := c) (n := n) (ws := y :: r) fun w hw => h w (List.mem_cons_of_mem _ hw)
    have := h x List.mem_cons_self
    rw [joinN_tail, List.length_append, List.length_cons]
    have e : (x :: y :: r).length * (n + 1) = (n + 1) + (y :: r).length * (n + 1) := by
      rw [List.length_cons, Nat.add_mul]; omega
    rw [e]; omega
theorem wd_len {p : Pl} (h : PlOk p) : (wd p).length ≤ 53 := by have := h.2.le; show p.2.length + 1 ≤ 53; omega
theorem textM_len {T : List Pl} (h : ∀ p ∈ T, PlOk p) : (textM T).length ≤ T.length * 54 + 1 := by
  unfold textM
  split
  · simp
  · have := joinN_len (c := 32) (n := 53) (ws := T.map wd) fun w hw => by obtain ⟨p, hp, rfl⟩ := List.mem_map.mp hw; exact wd_len (h p hp)
    rw [List.length_map] at this; omega
section
variable {P : Program} {w : World} {K : PySem.W.Frag} {mg : Str → Option Value} {base : Heap} {f aF : Addr} {fd : FuncData}
def spText (K : PySem.W.Frag) : Sp := fun vs H Q _ => ∃ (v : V) (T : List Pl), vs = [v] ∧ TrAt K H T v ∧ (∀ p ∈ T, PlOk p) ∧ T.length ≤ 100 ∧ ∀ H', Same H H' → Q (.str (tx (textM T))) H'
theorem t_figs : Str.ofString "0123" = tx [48, 49, 50, 51] := by decide +kernel
theorem fig {b : Nat} (h : b ≤ 3) : atI (Str.ofString "0123").cps.toList (b : Int) = some (48 + b) := by
  rw [t_figs, tx_cps]
  rcases (show b = 0 ∨ b = 1 ∨ b = 2 ∨ b = 3 by omega) with rfl | rfl | rfl | rfl <;> rfl
theorem sum_len {n : Nat} : ∀ {ws : List (List Nat)}, (∀ w ∈ ws, w.length ≤ n) → (ws.map List.length).sum ≤ ws.length * n
  | [], _ => Nat.zero_le _
  | x :: r, h => by
    have ih := sum_len (n := n) (ws := r) fun w hw => h w (List.mem_cons_of_mem _ hw)
    have := h x List.mem_cons_self
    rw [List.map_cons, List.sum_cons, List.length_cons, Nat.add_mul]; omega
theorem t_min : Str.ofString "-" = tx [45] := by decide +kernel
theorem t_blank : Str.ofString " " = tx [32] := by decide +kernel
theorem ok_tree_text (F : Fun K "tree_text" "tree_text" s_tree_text f fd) (B : Bl mg) (G : Gc K mg aF) : FnOk P w K mg base CX0 1 f fd p_tree_text (spText K) := by
  refine F.okQ sc_tree_text (fun vs H Q E h => ?_) (fun cdv A outer s H vs Q E hr h => ?_)
  · obtain ⟨v, T, rfl, _⟩ := h; rfl
  obtain ⟨v, T, rfl, ⟨a, vs, rfl, hS, hp⟩, hok, hlen, q⟩ := h
  have hvl := Paired.length hp
  refine ⟨_, (qb_cons (qs_if (qt_cmp o_eq (q_callB c_len_seq B.len PySem.boot_len (qa_cons (qv 0) qa_nil)) q_int) (qb_one (qs_ret (q_gc G.EMPTY))) qb_nil) (qb_one (qs_ret (q_ms PySem.F.slot_str_join PySem.F.type_str_join m_join q_str (qa_cons (q_comp (m := 0) (nm := ["place"]) (cap := [none]) rfl rfl rfl (by first | rfl | kernel_rfl) (qi_tup (qv 0)) (fun _ _ _ _ _ => (qg_name (i := 0) (show List.Nodup (["place"] : List Str) from by decide +kernel) rfl (Or.inl rfl))) (fun _ _ _ _ _ => qts_nil) (fun _ _ _ _ _ => (q_op o_add_str (q_callTy c_strI B.str boot_str (qa_cons (q_ix (i_tupK (K := K) rfl) (qv 0) q_int) qa_nil)) (q_ix (i_tupK (K := K) rfl) (qv 0) q_int)))) qa_nil))))), ?_⟩
  simp only [tSortSet, tRevS, rSorted, tYes, tComp_def, cxOf, rLenQ, rLenS, rAddS, rLe1, rMax, rMin, rOrd, rInt1, tStrs, rIsi, if_true, if_false, Bool.false_eq_true, tTupF, tLstF, rAppendF, rPopF, rSetLF, rTupleOf, rListOf, rCatF, scal_ss, scal_ii, scal_bb, V_str_eq, V_int_eq, V_bl_eq, tML, tMS, tML0, rJoin, upd_same, upd_upd, HO.lst.injEq, exists_const, and_self, and_assoc, tSeq, tAsg, gName, tC, tVar, tOp, tUn, rI, rI0, rU, tTest, tB, tIfS, tRet, tRetN, tNext, tDrop, tCB, tCons, tNil, tTup, tLst, tCall, tBM, tBM0, tyV, rAppend, rPop, rEq, rNe, rIxL, rIxT, rIxS, tAnd, tOr, tNot, tAndV, tOrV, tNotV, tIf, tIsN, tNotN, tChain, tSl, tNoPart, tPart, rSlS, rInS, rCat, rCatT, gSub, rSetL, gTup, gCons, gNil, L2.start, List.map, List.length, List.replicate, List.getElem?_cons_zero, List.getElem?_cons_succ, List.set_cons_zero, List.set_cons_succ, List.cons_append, List.nil_append, List.append_nil, Option.some.injEq, exists_eq_left', V.ref.injEq, V.int.injEq, V.str.injEq, V.bl.injEq, V.ty.injEq, List.cons.injEq, and_true, true_and, exists_and_left, exists_eq_left, exists_eq', exists_eq_right, Nat.add_one_sub_one, Nat.sub_self, Nat.reduceAdd, Nat.reduceSub, rStrI]
  refine ⟨vs, .inr hS, ite2 (fun c => ?_) (fun c => ?_)⟩
  · have c : vs.length = 0 := by simpa using c
    have e : textM T = [45] := by unfold textM; rw [if_pos (by omega)]
    have := q H (Same.refl H)
    rw [e] at this
    rw [t_min]; exact this
  · have c : ¬ vs.length = 0 := by simpa using c
    have e : textM T = joinN [32] (T.map wd) := by unfold textM; rw [if_neg (by omega)]
    refine ⟨⟨_, t_blank⟩, _, rfl, a, rfl, ⟨_, hS⟩, ?_⟩
    refine comp_tup (a := a) (xs := vs) (le_line (by omega)) (fun i ys Hc => Hc = H ∧ ys = ((T.take i).map wd).map fun l => V.str (tx l)) ⟨rfl, rfl⟩ (fun i ys Hc _ ⟨e, _⟩ => by rw [e]; exact hS) ?_ ?_
    · rintro i v ys Hc hv hy ⟨rfl, rfl⟩
      have hi : i < T.length := by rw [hvl]; exact (List.getElem?_eq_some_iff.mp hv).1
      obtain ⟨y, hy', qp, ey, hq⟩ := Paired.getE hp (List.getElem?_eq_getElem hi)
      rw [hv] at hy'; cases hy'
      subst ey
      have po := hok _ (List.getElem_mem hi)
      have ln := wd_len po
      simp only [tSortSet, tRevS, rSorted, tYes, tComp_def, cxOf, rLenQ, rLenS, rAddS, rLe1, rMax, rMin, rOrd, rInt1, tStrs, rIsi, if_true, if_false, Bool.false_eq_true, tTupF, tLstF, rAppendF, rPopF, rSetLF, rTupleOf, rListOf, rCatF, scal_ss, scal_ii, scal_bb, V_str_eq, V_int_eq, V_bl_eq, tML, tMS, tML0, rJoin, upd_same, upd_upd, HO.lst.injEq, exists_const, and_self, and_assoc, tSeq, tAsg, gName, tC, tVar, tOp, tUn, rI, rI0, rU, tTest, tB, tIfS, tRet, tRetN, tNext, tDrop, tCB, tCons, tNil, tTup, tLst, tCall, tBM, tBM0, tyV, rAppend, rPop, rEq, rNe, rIxL, rIxT, rIxS, tAnd, tOr, tNot, tAndV, tOrV, tNotV, tIf, tIsN, tNotN, tChain, tSl, tNoPart, tPart, rSlS, rInS, rCat, rCatT, gSub, rSetL, gTup, gCons, gNil, L2.start, List.map, List.length, List.replicate, List.getElem?_cons_zero, List.getElem?_cons_succ, List.set_cons_zero, List.set_cons_succ, List.cons_append, List.nil_append, List.append_nil, Option.some.injEq, exists_eq_left', V.ref.injEq, V.int.injEq, V.str.injEq, V.bl.injEq, V.ty.injEq, List.cons.injEq, and_true, true_and, exists_and_left, exists_eq_left, exists_eq', exists_eq_right, Nat.add_one_sub_one, Nat.sub_self, Nat.reduceAdd, Nat.reduceSub, capSt, Option.bind, Option.join, rStrI]
      refine ⟨_, hq, _, rfl, T[i].1, rfl, po.1, _, hq, _, rfl, _, rfl, ?_, ?_⟩
      · rw [tx_len, tx_len]
        have : T[i].2.length + 1 ≤ 53 := ln
        exact le_line (by simp; omega)
      · rw [tx_app, List.take_add_one, List.getElem?_eq_getElem hi]
        show _ = List.map _ (List.map wd (T.take i ++ [T[i]]))
        rw [List.map_append, List.map_append]; rfl
    · rintro ys H4 hy ⟨rfl, rfl⟩ p H5 hp5 e5
      rw [← hvl, List.take_length] at e5
      have sl := sum_len (n := 53) (ws := T.map wd) fun w hw => by obtain ⟨p, hp, rfl⟩ := List.mem_map.mp hw; exact wd_len (hok p hp)
      rw [List.length_map] at sl
      refine ⟨[32], t_blank, p, rfl, T.map wd, by rw [e5]; exact .of upd_same, by rw [List.length_map]; show _ + T.length * 1 ≤ _; omega, ?_⟩
      rw [← e]
      exact q _ (by rw [e5]; exact same_new hp5 _)
/-! ### read_place -/
def spRead (K : PySem.W.Frag) : Sp := fun vs H Q _ => ∃ p : Pl, vs = [.str (tx (wd p))] ∧ PlOk p ∧ ∀ q H', H q = none → H' = upd H q (.tup [.int p.1, .str (tx p.2)]) → Q (.ref q) H'
theorem ok_read_place (F : Fun K "read_place" "read_place" s_read_place f fd) (B : Bl mg) (G : Gc K mg aF) : FnOk P w K mg base CX0 1 f fd p_read_place (spRead K) := by
  refine F.okQ sc_read_place (fun vs H Q E h => ?_) (fun cdv A outer s H vs Q E hr h => ?_)
  · obtain ⟨p, rfl, _⟩ := h; rfl
  obtain ⟨p, rfl, hp, q⟩ := h
  refine ⟨_, (qb_cons (qs_if (qt_cmp o_notIn_seq (q_slice l_str (qv 0) qo_none (qo_some q_int)) (q_gc G.FIGURES)) (qb_one qs_raise) qb_nil) (qb_one (qs_ret (q_tup (qa_cons (q_callTy c_intS B.int boot_int (qa_cons (q_ix i_str (qv 0) q_int) qa_nil)) (qa_cons (q_slice l_str (qv 0) (qo_some q_int) qo_none) qa_nil)))))), ?_⟩
  simp only [tSortSet, tRevS, rSorted, tYes, tComp_def, cxOf, rLenQ, rLenS, rAddS, rLe1, rMax, rMin, rOrd, rInt1, tStrs, rIsi, if_true, if_false, Bool.false_eq_true, tTupF, tLstF, rAppendF, rPopF, rSetLF, rTupleOf, rListOf, rCatF, scal_ss, scal_ii, scal_bb, V_str_eq, V_int_eq, V_bl_eq, tML, tMS, tML0, rJoin, upd_same, upd_upd, HO.lst.injEq, exists_const, and_self, and_assoc, tSeq, tAsg, gName, tC, tVar, tOp, tUn, rI, rI0, rU, tTest, tB, tIfS, tRet, tRetN, tNext, tDrop, tCB, tCons, tNil, tTup, tLst, tCall, tBM, tBM0, tyV, rAppend, rPop, rEq, rNe, rIxL, rIxT, rIxS, tAnd, tOr, tNot, tAndV, tOrV, tNotV, tIf, tIsN, tNotN, tChain, tSl, tNoPart, tPart, rSlS, rInS, rCat, rCatT, gSub, rSetL, gTup, gCons, gNil, L2.start, List.map, List.length, List.replicate, List.getElem?_cons_zero, List.getElem?_cons_succ, List.set_cons_zero, List.set_cons_succ, List.cons_append, List.nil_append, List.append_nil, Option.some.injEq, exists_eq_left', V.ref.injEq, V.int.injEq, V.str.injEq, V.bl.injEq, V.ty.injEq, List.cons.injEq, and_true, true_and, exists_and_left, exists_eq_left, exists_eq', exists_eq_right, Nat.add_one_sub_one, Nat.sub_self, Nat.reduceAdd, Nat.reduceSub, rIntS, rIn, tNever]
  have ln := wd_len hp
  have e1 : cutN (wd p) none (some 1) = [48 + p.1] := by rw [cutN_upto (by decide)]; rfl
  have e2 : cutN (wd p) (some 1) none = p.2 := by rw [cutN_from (by decide)]; rfl
  have ei : inV (.str (tx [48 + p.1])) [.str (tx [48]), .str (tx [49]), .str (tx [50]), .str (tx [51])] = true := by
    rcases (show p.1 = 0 ∨ p.1 = 1 ∨ p.1 = 2 ∨ p.1 = 3 by have := hp.1; omega) with e | e | e | e <;> rw [e] <;> decide +kernel
  refine ⟨wd p, rfl, le_line (by omega), _, .inr (G.figs H), rfl, rfl, ?_⟩
  rw [e1]
  refine if_ff (by rw [ei]; rfl) ⟨by rw [tx_len]; exact le_line (by omega), 48 + p.1, (by rw [tx_cps]; exact atI_nat (j := 0) rfl), p.1, rfl, hp.1, wd p, rfl, le_line (by omega), le_line (by decide), fun qd H2 hq eq => ?_⟩
  rw [e2] at eq
  exact q qd H2 hq eq
/-! ### read_tree -/
def spReadT (K : PySem.W.Frag) : Sp := fun vs H Q _ => ∃ T : List Pl, vs = [.str (tx (textM T))] ∧ (∀ p ∈ T, PlOk p) ∧ TreeOk (T.map (·.1)) ∧ T.length ≤ 100 ∧ ∀ v H', Same H H' → TrAt K H' T v → Q v H'
theorem ok_read_tree (F : Fun K "read_tree" "read_tree" s_read_tree f fd) (B : Bl mg) (G : Gc K mg aF) (h_read_place : Has P w K mg base 1 "read_place" p_read_place (spRead K)) (h_is_tree : Has P w K mg base 4 "is_tree" p_is_tree (spTree K)) : FnOk P w K mg base CX0 5 f fd p_read_tree (spReadT K) := by
  refine F.okQ sc_read_tree (fun vs H Q E h => ?_) (fun cdv A outer s H vs Q E hr h => ?_)
  · obtain ⟨T, rfl, _⟩ := h; rfl
  obtain ⟨T, rfl, hok, htr, hlen, q⟩ := h
  refine ⟨_, (qb_cons (qs_if (qt_cmp o_ge (q_ms PySem.F.slot_str_count PySem.F.type_str_count m_count (qv 0) (qa_cons q_str qa_nil)) (q_gc G.MOST_PLACES)) (qb_one qs_raise) qb_nil) (qb_cons (qs_if (qt_cmp o_eq (qv 0) (q_gc G.EMPTY)) (qb_one (qs_ret (q_tup qa_nil))) qb_nil) (qb_cons (qs_set (i := 1) sc_read_tree.nd rfl (Or.inl rfl) (q_callTy c_tuple B.tuple boot_tuple (qa_cons (q_comp (m := 0) (nm := ["word"]) (cap := [none]) rfl rfl rfl (by first | rfl | kernel_rfl) (qi_list (q_ms PySem.F.slot_str_split PySem.F.type_str_split m_split (qv 0) (qa_cons q_str qa_nil))) (fun _ _ _ _ _ => (qg_name (i := 0) (show List.Nodup (["word"] : List Str) from by decide +kernel) rfl (Or.inl rfl))) (fun _ _ _ _ _ => qts_nil) (fun _ _ _ _ _ => (q_has h_read_place hr (by omega) (qa_cons (qv 0) qa_nil)))) qa_nil))) (qb_cons (qs_if (qt_not (qt_val (q_has h_is_tree hr (by omega) (qa_cons (qv 1) qa_nil)))) (qb_one qs_raise) qb_nil) (qb_one (qs_ret (qv 1))))))), ?_⟩
  simp only [tSortSet, tRevS, rSorted, tYes, tComp_def, cxOf, rLenQ, rLenS, rAddS, rLe1, rMax, rMin, rOrd, rInt1, tStrs, rIsi, if_true, if_false, Bool.false_eq_true, tTupF, tLstF, rAppendF, rPopF, rSetLF, rTupleOf, rListOf, rCatF, scal_ss, scal_ii, scal_bb, V_str_eq, V_int_eq, V_bl_eq, tML, tMS, tML0, rJoin, upd_same, upd_upd, HO.lst.injEq, exists_const, and_self, and_assoc, tSeq, tAsg, gName, tC, tVar, tOp, tUn, rI, rI0, rU, tTest, tB, tIfS, tRet, tRetN, tNext, tDrop, tCB, tCons, tNil, tTup, tLst, tCall, tBM, tBM0, tyV, rAppend, rPop, rEq, rNe, rIxL, rIxT, rIxS, tAnd, tOr, tNot, tAndV, tOrV, tNotV, tIf, tIsN, tNotN, tChain, tSl, tNoPart, tPart, rSlS, rInS, rCat, rCatT, gSub, rSetL, gTup, gCons, gNil, L2.start, List.map, List.length, List.replicate, List.getElem?_cons_zero, List.getElem?_cons_succ, List.set_cons_zero, List.set_cons_succ, List.cons_append, List.nil_append, List.append_nil, Option.some.injEq, exists_eq_left', V.ref.injEq, V.int.injEq, V.str.injEq, V.bl.injEq, V.ty.injEq, List.cons.injEq, and_true, true_and, exists_and_left, exists_eq_left, exists_eq', exists_eq_right, Nat.add_one_sub_one, Nat.sub_self, Nat.reduceAdd, Nat.reduceSub, rCount, tNever]
  have free : ∀ w ∈ T.map wd, 32 ∉ w := fun w hw => by obtain ⟨p, hp, rfl⟩ := List.mem_map.mp hw; exact (hok p hp).free
  have few : (textM T).count 32 < 100 := by
    unfold textM
    split
    · decide
    · rw [joinN_count free, List.length_map]; omega
  refine ⟨⟨_, rfl⟩, textM T, rfl, 32, t_blank, if_ff (decide_eq_false (by omega)) ?_⟩
  by_cases h0 : T.length = 0
  · have e : textM T = [45] := by unfold textM; rw [if_pos h0]
    have eT : T = [] := List.eq_nil_of_length_eq_zero h0
    subst eT
    refine if_tt (decide_eq_true (by rw [e, t_min])) ⟨Nat.zero_le _, fun p H2 hp e2 => q _ H2 (by rw [e2]; exact same_new hp _) ⟨p, [], rfl, by rw [e2]; exact SqT.new, .nil⟩⟩
  · have e : textM T = joinN [32] (T.map wd) := by unfold textM; rw [if_neg h0]
    have tl := textM_len hok
    rw [e] at tl
    have ne : joinN [32] (T.map wd) ≠ [45] := by
      match T, h0 with
      | [p], _ => intro z; have z : wd p = [45] := z; unfold wd at z; have := (List.cons.inj z).1; omega
      | p :: p2 :: r, _ =>
        intro z
        have z : joinN [32] (wd p :: wd p2 :: r.map wd) = [45] := z
        rw [joinN_tail] at z
        have := (List.cons.inj z).1; omega
    rw [e]
    refine if_ff (decide_eq_false fun z => ne (by rw [t_min] at z; exact tx_inj.mp z)) ?_
    refine ⟨_, rfl, ⟨_, rfl⟩, 32, T.map wd, rfl, by rw [t_blank], by simp; exact fun z => h0 (by rw [z]; rfl), free, le_line (by omega), by rw [List.length_map]; exact le_line (by omega), fun ls H2 hls e2 => ⟨ls, rfl, ?_⟩⟩
    have g2 : H2 ls = some (.lst ((T.map wd).map fun l => V.str (tx l))) := by rw [e2, upd_same]
    have s2 : Same H H2 := by rw [e2]; exact same_new hls _
    refine ⟨⟨_, .of g2⟩, comp_list (a := ls) (xs := (T.map wd).map fun l => V.str (tx l)) (by simp; exact le_line (by omega)) (fun i ys Hc => Same H2 Hc ∧ Paired (PlAt K Hc) (T.take i) ys) ⟨Same.refl _, .nil⟩ (fun i ys Hc _ ⟨s, _⟩ => .of (s _ _ g2)) ?_ ?_⟩
    · rintro i v ys Hc hv hy ⟨sm, hpr⟩
      have hi : i < T.length := by have := (List.getElem?_eq_some_iff.mp hv).1; simpa using this
      obtain rfl : v = .str (tx (wd T[i])) := by
        rw [List.getElem?_map, List.getElem?_map, List.getElem?_eq_getElem hi] at hv
        exact (Option.some.inj hv).symm
      simp only [tSortSet, tRevS, rSorted, tYes, tComp_def, cxOf, rLenQ, rLenS, rAddS, rLe1, rMax, rMin, rOrd, rInt1, tStrs, rIsi, if_true, if_false, Bool.false_eq_true, tTupF, tLstF, rAppendF, rPopF, rSetLF, rTupleOf, rListOf, rCatF, scal_ss, scal_ii, scal_bb, V_str_eq, V_int_eq, V_bl_eq, tML, tMS, tML0, rJoin, upd_same, upd_upd, HO.lst.injEq, exists_const, and_self, and_assoc, tSeq, tAsg, gName, tC, tVar, tOp, tUn, rI, rI0, rU, tTest, tB, tIfS, tRet, tRetN, tNext, tDrop, tCB, tCons, tNil, tTup, tLst, tCall, tBM, tBM0, tyV, rAppend, rPop, rEq, rNe, rIxL, rIxT, rIxS, tAnd, tOr, tNot, tAndV, tOrV, tNotV, tIf, tIsN, tNotN, tChain, tSl, tNoPart, tPart, rSlS, rInS, rCat, rCatT, gSub, rSetL, gTup, gCons, gNil, L2.start, List.map, List.length, List.replicate, List.getElem?_cons_zero, List.getElem?_cons_succ, List.set_cons_zero, List.set_cons_succ, List.cons_append, List.nil_append, List.append_nil, Option.some.injEq, exists_eq_left', V.ref.injEq, V.int.injEq, V.str.injEq, V.bl.injEq, V.ty.injEq, List.cons.injEq, and_true, true_and, exists_and_left, exists_eq_left, exists_eq', exists_eq_right, Nat.add_one_sub_one, Nat.sub_self, Nat.reduceAdd, Nat.reduceSub, capSt, Option.bind, Option.join, spRead]
      refine ⟨T[i], rfl, hok _ (List.getElem_mem hi), fun qd H3 hq e3 => ?_⟩
      have s3 : Same Hc H3 := by rw [e3]; exact same_new hq _
      refine ⟨sm.trans s3, ?_⟩
      rw [List.take_add_one, List.getElem?_eq_getElem hi]
      exact Paired.snoc (PlAts.mono (SqT.same s3) hpr) ⟨qd, rfl, SqT.of (by rw [e3, upd_same])⟩
    · rintro ys H4 hy ⟨sm, hpr⟩ p H5 hp5 e5
      rw [List.length_map, List.length_map, List.take_length] at hpr
      have s5 : Same H4 H5 := by rw [e5]; exact same_new hp5 _
      refine ⟨p, rfl, ys, by rw [e5]; exact .of upd_same, fun lt H6 hlt e6 => ?_⟩
      have s6 : Same H5 H6 := by rw [e6]; exact same_new hlt _
      have tr : TrAt K H6 T (.ref lt) := ⟨lt, ys, rfl, by rw [e6]; exact SqT.new, PlAts.mono (SqT.same (s5.trans s6)) hpr⟩
      refine ⟨.ref lt, T, rfl, tr, hok, by omega, fun H7 s7 => ⟨true, by rw [decide_eq_true htr], if_ff rfl ?_⟩⟩
      exact q _ H7 (s2.trans (sm.trans (s5.trans (s6.trans s7)))) (tr.mono (SqT.same s7))
/-! ### _law_text -/
theorem ok_text (F : Fun K "_law_text" "_law_text" s__law_text f fd) (B : Bl mg) : FnOk P w K mg base CX0 1 f fd p__law_text (spText K) := by
  refine F.okQ sc__law_text (fun vs H Q E h => ?_) (fun cdv A outer s H vs Q E hr h => ?_)
  · obtain ⟨v, T, rfl, _⟩ := h; rfl
  obtain ⟨v, T, rfl, ⟨a, vs, rfl, hS, hp⟩, hok, hlen, q⟩ := h
  have hvl := Paired.length hp
  refine ⟨_, (qb_cons (qs_set (i := 1) sc__law_text.nd rfl (Or.inl rfl) q_str) (qb_cons (qs_for PassesOwn.never rfl (qi_range1 B.range (qa_cons (q_callB c_len_seq B.len PySem.boot_len (qa_cons (qv 0) qa_nil)) qa_nil)) (qg_name (i := 2) sc__law_text.nd rfl (Or.inl rfl)) (qb_cons (qs_if (qt_cmp o_eq (qv 2) q_int) (qb_one (qs_set (i := 1) sc__law_text.nd rfl (Or.inl rfl) q_str)) (qb_one (qs_set (i := 1) sc__law_text.nd rfl (Or.inl rfl) (q_op o_add_str (qv 1) q_str)))) (qb_one (qs_set (i := 1) sc__law_text.nd rfl (Or.inl rfl) (q_op o_add_str (q_op o_add_str (qv 1) (q_ix i_str q_str (q_ix i_tup (q_ix i_tup (qv 0) (qv 2)) q_int))) (q_ix i_tup (q_ix i_tup (qv 0) (qv 2)) q_int)))))) (qb_one (qs_ret (qv 1))))), ?_⟩
  simp only [tSortSet, tRevS, rSorted, tYes, tComp_def, cxOf, rLenQ, rLenS, rAddS, rLe1, rMax, rMin, rOrd, rInt1, tStrs, rIsi, if_true, if_false, Bool.false_eq_true, tTupF, tLstF, rAppendF, rPopF, rSetLF, rTupleOf, rListOf, rCatF, scal_ss, scal_ii, scal_bb, V_str_eq, V_int_eq, V_bl_eq, tML, tMS, tML0, rJoin, upd_same, upd_upd, HO.lst.injEq, exists_const, and_self, and_assoc, tSeq, tAsg, gName, tC, tVar, tOp, tUn, rI, rI0, rU, tTest, tB, tIfS, tRet, tRetN, tNext, tDrop, tCB, tCons, tNil, tTup, tLst, tCall, tBM, tBM0, tyV, rAppend, rPop, rEq, rNe, rIxL, rIxT, rIxS, tAnd, tOr, tNot, tAndV, tOrV, tNotV, tIf, tIsN, tNotN, tChain, tSl, tNoPart, tPart, rSlS, rInS, rCat, rCatT, gSub, rSetL, gTup, gCons, gNil, L2.start, List.map, List.length, List.replicate, List.getElem?_cons_zero, List.getElem?_cons_succ, List.set_cons_zero, List.set_cons_succ, List.cons_append, List.nil_append, List.append_nil, Option.some.injEq, exists_eq_left', V.ref.injEq, V.int.injEq, V.str.injEq, V.bl.injEq, V.ty.injEq, List.cons.injEq, and_true, true_and, exists_and_left, exists_eq_left, exists_eq', exists_eq_right, Nat.add_one_sub_one, Nat.sub_self, Nat.reduceAdd, Nat.reduceSub]
  refine ⟨_, rfl, a, vs, rfl, .inr hS, _, rfl, by omega, by omega, ?_⟩
  refine for_range (fun i σ Hc => ∃ (o2 : Option V), σ = [some (.ref a), some (.str (tx (textM (T.take i)))), o2] ∧ Hc = H) ⟨none, by rw [t_min]; rfl, rfl⟩ ?_ ?_
  · rintro i σ Hc hi ⟨o2, rfl, rfl⟩
    have hi : i < T.length := by omega
    obtain ⟨y, hy, qp, rfl, hq⟩ := Paired.getE hp (List.getElem?_eq_getElem hi)
    have po := hok _ (List.getElem_mem hi)
    have ln : T[i].2.length + 1 ≤ 53 := wd_len po
    have tl := textM_len (T := T.take i) fun p hp => hok p (List.mem_of_mem_take hp)
    rw [List.length_take] at tl
    have fg := fig po.1
    have lf : (Str.ofString "0123").length ≤ sizeLine := by rw [t_figs, tx_len]; exact le_line (by decide)
    have ai : atI vs (0 + (i : Int)) = some (.ref qp) := by rw [Int.zero_add]; exact atI_nat hy
    have tk : T.take (i + 1) = T.take i ++ [T[i]] := by rw [List.take_add_one, List.getElem?_eq_getElem hi]; rfl
    have tki : (T.take i).length = i := by rw [List.length_take]; omega
    simp only [tSortSet, tRevS, rSorted, tYes, tComp_def, cxOf, rLenQ, rLenS, rAddS, rLe1, rMax, rMin, rOrd, rInt1, tStrs, rIsi, if_true, if_false, Bool.false_eq_true, tTupF, tLstF, rAppendF, rPopF, rSetLF, rTupleOf, rListOf, rCatF, scal_ss, scal_ii, scal_bb, V_str_eq, V_int_eq, V_bl_eq, tML, tMS, tML0, rJoin, upd_same, upd_upd, HO.lst.injEq, exists_const, and_self, and_assoc, tSeq, tAsg, gName, tC, tVar, tOp, tUn, rI, rI0, rU, tTest, tB, tIfS, tRet, tRetN, tNext, tDrop, tCB, tCons, tNil, tTup, tLst, tCall, tBM, tBM0, tyV, rAppend, rPop, rEq, rNe, rIxL, rIxT, rIxS, tAnd, tOr, tNot, tAndV, tOrV, tNotV, tIf, tIsN, tNotN, tChain, tSl, tNoPart, tPart, rSlS, rInS, rCat, rCatT, gSub, rSetL, gTup, gCons, gNil, L2.start, List.map, List.length, List.replicate, List.getElem?_cons_zero, List.getElem?_cons_succ, List.set_cons_zero, List.set_cons_succ, List.cons_append, List.nil_append, List.append_nil, Option.some.injEq, exists_eq_left', V.ref.injEq, V.int.injEq, V.str.injEq, V.bl.injEq, V.ty.injEq, List.cons.injEq, and_true, true_and, exists_and_left, exists_eq_left, exists_eq', exists_eq_right, Nat.add_one_sub_one, Nat.sub_self, Nat.reduceAdd, Nat.reduceSub]
    refine ite2 (fun c => ?_) (fun c => ?_)
    · have c : i = 0 := by have := of_decide_eq_true c; omega
      refine ⟨_, hS, _, ai, qp, rfl, _, hq, _, rfl, _, rfl, lf, _, fg, ?_, _, hS, _, ai, qp, rfl, _, hq, _, rfl, _, rfl, ?_, ?_⟩
      all_goals rw [tx_nil]
      · show (tx []).length + (tx [48 + T[i].1]).length ≤ sizeLine
        rw [tx_len, tx_len]; exact le_line (by simp)
      · show (tx [] ++ tx [48 + T[i].1]).length + (tx T[i].2).length ≤ sizeLine
        rw [tx_app, tx_len, tx_len]; exact le_line (by simp; omega)
      · show tx [] ++ tx [48 + T[i].1] ++ tx T[i].2 = _
        rw [tx_app, tx_app, tk]
        subst c
        rfl
    · have c : ¬ i = 0 := fun z => c (decide_eq_true (by omega))
      have et : textM (T.take (i + 1)) = textM (T.take i) ++ 32 :: wd T[i] := by
        unfold textM
        rw [tk, if_neg (by rw [List.length_append]; simp), if_neg (by omega), List.map_append]
        exact joinN_snoc (fun z => c (by have := congrArg List.length z; rw [List.length_map, tki] at this; exact this))
      refine ⟨?_, _, hS, _, ai, qp, rfl, _, hq, _, rfl, _, rfl, lf, _, fg, ?_, _, hS, _, ai, qp, rfl, _, hq, _, rfl, _, rfl, ?_, ?_⟩
      all_goals rw [t_blank]
      · rw [tx_len, tx_len]; exact le_line (by simp; omega)
      · show (tx (textM (T.take i)) ++ tx [32]).length + (tx [48 + T[i].1]).length ≤ sizeLine
        rw [tx_app, tx_len, tx_len]; exact le_line (by simp; omega)
      · show (tx (textM (T.take i)) ++ tx [32] ++ tx [48 + T[i].1]).length + (tx T[i].2).length ≤ sizeLine
        rw [tx_app, tx_app, tx_len, tx_len]; exact le_line (by simp; omega)
      · show tx (textM (T.take i)) ++ tx [32] ++ tx [48 + T[i].1] ++ tx T[i].2 = _
        rw [tx_app, tx_app, tx_app, et]
        unfold wd
        simp
  · rintro σ Hc ⟨o2, rfl, rfl⟩
    simp only [tSortSet, tRevS, rSorted, tYes, tComp_def, cxOf, rLenQ, rLenS, rAddS, rLe1, rMax, rMin, rOrd, rInt1, tStrs, rIsi, if_true, if_false, Bool.false_eq_true, tTupF, tLstF, rAppendF, rPopF, rSetLF, rTupleOf, rListOf, rCatF, scal_ss, scal_ii, scal_bb, V_str_eq, V_int_eq, V_bl_eq, tML, tMS, tML0, rJoin, upd_same, upd_upd, HO.lst.injEq, exists_const, and_self, and_assoc, tSeq, tAsg, gName, tC, tVar, tOp, tUn, rI, rI0, rU, tTest, tB, tIfS, tRet, tRetN, tNext, tDrop, tCB, tCons, tNil, tTup, tLst, tCall, tBM, tBM0, tyV, rAppend, rPop, rEq, rNe, rIxL, rIxT, rIxS, tAnd, tOr, tNot, tAndV, tOrV, tNotV, tIf, tIsN, tNotN, tChain, tSl, tNoPart, tPart, rSlS, rInS, rCat, rCatT, gSub, rSetL, gTup, gCons, gNil, L2.start, List.map, List.length, List.replicate, List.getElem?_cons_zero, List.getElem?_cons_succ, List.set_cons_zero, List.set_cons_succ, List.cons_append, List.nil_append, List.append_nil, Option.some.injEq, exists_eq_left', V.ref.injEq, V.int.injEq, V.str.injEq, V.bl.injEq, V.ty.injEq, List.cons.injEq, and_true, true_and, exists_and_left, exists_eq_left, exists_eq', exists_eq_right, Nat.add_one_sub_one, Nat.sub_self, Nat.reduceAdd, Nat.reduceSub]
    have : ((vs.length : Nat) : Int).toNat = T.length := by omega
    rw [this, List.take_length]
    exact q _ (Same.refl _)
end
end P
set_option Elab.async false
set_option linter.all false
set_option maxRecDepth 100000
set_option maxHeartbeats 4000000
namespace P
open PySem L2
open PyProof.Rows (boot_sorted boot_set boot_ord boot_all boot_enumerate boot_int boot_str boot_bool boot_list boot_tuple boot_isinstance boot_max boot_min)
theorem wf_le {bs : List Nat} {h : Nat} (w : Wf bs h) : ∀ b ∈ bs, b ≤ 3 := by
  induction w with
  | nil => intro b hb; exact absurd hb List.not_mem_nil
  | snoc _ h1 _ ih =>
    intro b hb
    rcases List.mem_append.mp hb with z | z
    · exact ih b z
    · rw [List.mem_singleton] at z; rw [z]; exact h1
theorem wf_stand {bs : List Nat} {h : Nat} (w : Wf bs h) : stand bs = h ∧ ∀ j, j < bs.length → 1 ≤ stand (bs.take (j + 1)) := by
  induction w with
  | nil => exact ⟨rfl, fun j hj => absurd hj (Nat.not_lt_zero j)⟩
  | @snoc bs h b w h1 h2 ih =>
    obtain ⟨e, all⟩ := ih
    have es : stand (bs ++ [b]) = ((h + 1 - need b : Nat) : Int) := by rw [stand_snoc, e]; omega
    refine ⟨es, fun j hj => ?_⟩
    rw [List.length_append, List.length_singleton] at hj
    by_cases hlt : j < bs.length
    · rw [List.take_append_of_le_length (by omega)]
      exact all j hlt
    · rw [List.take_of_length_le (by rw [List.length_append, List.length_singleton]; omega), es]
      omega
theorem wf_tree {bs : List Nat} {h : Nat} (w : Wf bs h) (h1 : h ≤ 1) : TreeOk bs := by
  obtain ⟨e, all⟩ := wf_stand w
  by_cases h0 : bs.length = 0
  · exact .inl h0
  · have hp := w.pos (fun z => h0 (by rw [z]; rfl))
    exact .inr ⟨by rw [e]; omega, all⟩
theorem mk_row {pl m : List Nat} (nd : pl.Nodup) (hL : ∀ c ∈ pl, isL c) (h : Mk pl m) : RowOk m := by
  obtain ⟨m0, s, p, up⟩ := h
  have nm : m.Nodup := p.nodup_iff.mpr (s.nodup nd)
  refine ⟨fun c hc => hL c (s.subset (p.mem_iff.mp hc)), ?_⟩
  exact (List.Pairwise.and up nm).imp fun z => Nat.lt_of_le_of_ne z.1 z.2
theorem sub_row {m : List Nat} (h : m.Sublist abc) : RowOk m := ⟨fun c hc => (mem_abc c).mp (h.subset hc), (show abc.Pairwise (· < ·) by decide +kernel).sublist h⟩
theorem set_fst {T : List Pl} {k : Nat} (hk : k < T.length) (m : List Nat) : (T.take k ++ [(T[k].1, m)] ++ T.drop (k + 1)).map (·.1) = T.map (·.1) := by
  have e : T = T.take k ++ [T[k]] ++ T.drop (k + 1) := by rw [List.append_assoc, List.singleton_append, ← List.drop_eq_getElem_cons hk, List.take_append_drop]
  conv => rhs; rw [e]
  simp only [List.map_append, List.map_cons, List.map_nil]
def plD (p : Pl) : D := D.tup [.int p.1, .str p.2]
section
variable {P : Program} {w : World} {K : PySem.W.Frag} {mg : Str → Option Value} {base : Heap} {f aF : Addr} {fd : FuncData}
theorem pl_dps {H : Hp} : ∀ {T : List Pl} {vs : List V}, Paired (PlAt K H) T vs → Dps K H (T.map plD) vs
  | _, _, .nil => .nil
  | _, _, .cons ⟨q, e, hq⟩ t => by
    subst e
    exact .cons (Dp.tupI hq (.cons (by unfold Dp; rfl) (.cons (by unfold Dp; rfl) .nil))) (pl_dps t)
theorem tr_dp {H : Hp} {T : List Pl} {v : V} (h : TrAt K H T v) : Dp K H (D.tup (T.map plD)) v := by
  obtain ⟨a, vs, rfl, hS, hp⟩ := h
  exact Dp.tupI hS (pl_dps hp)
theorem tr_dep : ∀ T : List Pl, (D.tup (T.map plD)).dep ≤ 3
  | [] => by show 1 ≤ 3; decide
  | p :: r => by
    have := tr_dep r
    show max ((plD p).dep + 1) (D.tup (r.map plD)).dep ≤ 3
    have : (plD p).dep = 2 := rfl
    omega
theorem tr_size : ∀ T : List Pl, (D.tup (T.map plD)).size ≤ T.length * 6 + 1
  | [] => by show 1 ≤ 1; decide
  | p :: r => by
    have := tr_size r
    show (plD p).size + (D.tup (r.map plD)).size + 1 ≤ (r.length + 1) * 6 + 1
    have : (plD p).size = 5 := rfl
    omega
def spLtrs : Sp := fun vs H Q _ => vs = [] ∧ Q (.str (tx abc)) H
theorem ok_letters (F : Fun K "_law_letters" "_law_letters" s__law_letters f fd) : FnOk P w K mg base CX0 1 f fd p__law_letters spLtrs := by
  refine F.okQ sc__law_letters (fun vs H Q E h => ?_) (fun cdv A outer s H vs Q E hr h => ?_)
  · obtain ⟨rfl, _⟩ := h; rfl
  obtain ⟨rfl, q⟩ := h
  refine ⟨_, (qb_one (qs_ret q_str)), ?_⟩
  simp only [tSortSet, tRevS, rSorted, tYes, tComp_def, cxOf, rLenQ, rLenS, rAddS, rLe1, rMax, rMin, rOrd, rInt1, tStrs, rIsi, if_true, if_false, Bool.false_eq_true, tTupF, tLstF, rAppendF, rPopF, rSetLF, rTupleOf, rListOf, rCatF, scal_ss, scal_ii, scal_bb, V_str_eq, V_int_eq, V_bl_eq, tML, tMS, tML0, rJoin, upd_same, upd_upd, HO.lst.injEq, exists_const, and_self, and_assoc, tSeq, tAsg, gName, tC, tVar, tOp, tUn, rI, rI0, rU, tTest, tB, tIfS, tRet, tRetN, tNext, tDrop, tCB, tCons, tNil, tTup, tLst, tCall, tBM, tBM0, tyV, rAppend, rPop, rEq, rNe, rIxL, rIxT, rIxS, tAnd, tOr, tNot, tAndV, tOrV, tNotV, tIf, tIsN, tNotN, tChain, tSl, tNoPart, tPart, rSlS, rInS, rCat, rCatT, gSub, rSetL, gTup, gCons, gNil, L2.start, List.map, List.length, List.replicate, List.getElem?_cons_zero, List.getElem?_cons_succ, List.set_cons_zero, List.set_cons_succ, List.cons_append, List.nil_append, List.append_nil, Option.some.injEq, exists_eq_left', V.ref.injEq, V.int.injEq, V.str.injEq, V.bl.injEq, V.ty.injEq, List.cons.injEq, and_true, true_and, exists_and_left, exists_eq_left, exists_eq', exists_eq_right, Nat.add_one_sub_one, Nat.sub_self, Nat.reduceAdd, Nat.reduceSub]
  rw [tx_lit]; exact q
def spLaw (K : PySem.W.Frag) : Sp := fun vs H Q _ => ∃ (a : Addr) (ns : List Int), vs = [.ref a] ∧ SqL K H a (ns.map V.int) ∧ ns.length ≤ 63 ∧ ∀ H', Q (.bl true) H'
theorem sqL_sm {a : Addr} {xs : List V} {H H' : Hp} (e : Same H H') (h : SqL K H a xs) : SqL K H' a xs := by
  rcases h with (h | ⟨o, h⟩) | h
  · exact .inl (.inl (e _ _ h))
  · exact .inl (.inr ⟨o, e _ _ h⟩)
  · exact .inr h
theorem same_yes {n : Nat} {x y : V} {d : D} {H : Hp} {Q : VK} (hx : Dp K H d x) (hy : Dp K H d y) (h1 : d.dep ≤ n) (h2 : d.size ≤ 1000000) (q : Q (.bl true) H) : spSame K n [x, y] H Q E0 :=
  ⟨x, y, d, d, rfl, hx, hy, h1, h2, fun H' e => by rw [e, decide_eq_true rfl]; exact q⟩
theorem dpS {H : Hp} {l : List Nat} : Dp K H (.str l) (.str (tx l)) := by unfold Dp; rfl
/-- the tree under way -/
structure Gt (K : PySem.W.Frag) (H0 H : Hp) (T : List Pl) (v : V) : Prop where
  same : Same H0 H
  tr : TrAt K H T v
  ok : ∀ p ∈ T, PlOk p
  tree : TreeOk (T.map (·.1))
  len : T.length ≤ 100
theorem ok_law (F : Fun K "law" "law" s_law f fd) (B : Bl mg) (h__law_cell : Has P w K mg base 1 "_law_cell" p__law_cell (spCell K)) (h__law_draws : Has P w K mg base 2 "_law_draws" p__law_draws spDraws) (h__law_pool : Has P w K mg base 3 "_law_pool" p__law_pool spPool)
    (h__law_size : Has P w K mg base 3 "_law_size" p__law_size spSize) (h__law_wood : Has P w K mg base 2 "_law_wood" p__law_wood (spWood K)) (h__law_letters : Has P w K mg base 1 "_law_letters" p__law_letters spLtrs) (h__law_text : Has P w K mg base 1 "_law_text" p__law_text (spText K))
    (h_tree_text : Has P w K mg base 1 "tree_text" p_tree_text (spText K)) (h_read_tree : Has P w K mg base 5 "read_tree" p_read_tree (spReadT K)) (h__law_same : Has P w K mg base 4 "_law_same" p__law_same (spSame K 3)) : FnOk P w K mg base CX0 40 f fd p_law (spLaw K) := by
  refine F.okQ sc_law (fun vs H Q E h => ?_) (fun cdv A outer s H vs Q E hr h => ?_)
  · obtain ⟨a, ns, rfl, _⟩ := h; rfl
  obtain ⟨a, ns, rfl, hS, hn, q⟩ := h
  refine ⟨_, (qb_cons (qs_set (i := 1) sc_law.nd rfl (Or.inl rfl) (q_has h__law_pool hr (by omega) (qa_cons (q_has h__law_cell hr (by omega) (qa_cons (qv 0) (qa_cons q_int qa_nil))) (qa_cons q_int (qa_cons q_int qa_nil))))) (qb_cons (qs_set (i := 2) sc_law.nd rfl (Or.inl rfl) (q_has h__law_draws hr (by omega) (qa_cons (q_has h__law_cell hr (by omega) (qa_cons (qv 0) (qa_cons q_int qa_nil))) (qa_cons (q_has h__law_size hr (by omega) (qa_cons (q_has h__law_cell hr (by omega) (qa_cons (qv 0) (qa_cons q_int qa_nil))) (qa_cons q_int (qa_cons q_int qa_nil)))) (qa_cons q_int qa_nil))))) (qb_cons (qs_set (i := 3) sc_law.nd rfl (Or.inl rfl) (q_has h__law_wood hr (by omega) (qa_cons (qv 2) (qa_cons (qv 1) (qa_cons q_int qa_nil))))) (qb_cons (qs_set (i := 4) sc_law.nd rfl (Or.inl rfl) (q_has h__law_draws hr (by omega) (qa_cons (q_has h__law_cell hr (by omega) (qa_cons (qv 0) (qa_cons q_int qa_nil))) (qa_cons q_int (qa_cons q_int qa_nil))))) (qb_cons (qs_if (qt_w (qw_and (qt_cmp o_gt (q_callB c_len_seq B.len PySem.boot_len (qa_cons (qv 3) qa_nil)) q_int) (qw_and1 (qt_cmp o_eq (q_op o_mod (q_ix i_list (qv 4) q_int) q_int) q_int)))) (qb_cons (qs_set (i := 5) sc_law.nd rfl (Or.inl rfl) (q_op o_mod (q_op o_add (q_ix i_list (qv 4) q_int) (q_op o_mul q_int (q_ix i_list (qv 4) q_int))) (q_callB c_len_seq B.len PySem.boot_len (qa_cons (qv 3) qa_nil)))) (qb_cons (qs_set (i := 6) sc_law.nd rfl (Or.inr rfl) (q_has h__law_draws hr (by omega) (qa_cons (q_has h__law_cell hr (by omega) (qa_cons (qv 0) (qa_cons q_int qa_nil))) (qa_cons q_int (qa_cons q_int qa_nil))))) (qb_cons (qs_set (i := 7) sc_law.nd rfl (Or.inl rfl) (q_ms PySem.F.slot_str_join PySem.F.type_str_join m_join q_str (qa_cons (q_comp (nm := ["_law_k", "_law_many"]) (cap := [none, some 6]) rfl rfl rfl (by first | rfl | kernel_rfl) (qi_range1 B.range (qa_cons q_int qa_nil)) (fun _ _ _ _ _ => (qg_name (i := 0) (show List.Nodup (["_law_k", "_law_many"] : List Str) from by decide +kernel) rfl (Or.inl rfl))) (fun _ _ _ _ _ => (qts_one (qt_cmp o_eq (q_op o_mod (q_ix (i_listK (K := K) rfl) (qv 1) (qv 0)) q_int) q_int))) (fun _ _ _ _ _ => (q_ix i_str (q_has0 h__law_letters hr (by omega)) (qv 0)))) qa_nil))) (qb_one (qs_set (i := 3) sc_law.nd rfl (Or.inl rfl) (q_op o_catA (q_op o_catA (q_slice l_tup (qv 3) qo_none (qo_some (qv 5))) (q_tup (qa_cons (q_tup (qa_cons (q_ix i_tup (q_ix i_tup (qv 3) (qv 5)) q_int) (qa_cons (qv 7) qa_nil))) qa_nil))) (q_slice l_tup (qv 3) (qo_some (q_op o_add (qv 5) q_int)) qo_none))))))) qb_nil) (qb_cons (qs_set (i := 8) sc_law.nd rfl (Or.inl rfl) (q_has h__law_text hr (by omega) (qa_cons (qv 3) qa_nil))) (qb_one (qs_ret (q_and (q_has h__law_same hr (by omega) (qa_cons (q_has h_tree_text hr (by omega) (qa_cons (qv 3) qa_nil)) (qa_cons (qv 8) qa_nil))) (q_one (q_has h__law_same hr (by omega) (qa_cons (q_has h_read_tree hr (by omega) (qa_cons (qv 8) qa_nil)) (qa_cons (qv 3) qa_nil))))))))))))), ?_⟩
  refine cut4 (fun σ H' => ∃ (pl : List Nat) (ld lw : Addr) (ws : List Int) (v : V) (T : List Pl), σ = [some (.ref a), some (.str (tx pl)), some (.ref ld), some v, some (.ref lw), none, none, none, none] ∧ ws.length = 4 ∧ H' lw = some (.lst (ws.map V.int)) ∧ Gt K H H' T v) ?_ ?_
  rotate_left
  · intro PP hPP
    simp only [tSortSet, tRevS, rSorted, tYes, tComp_def, cxOf, rLenQ, rLenS, rAddS, rLe1, rMax, rMin, rOrd, rInt1, tStrs, rIsi, if_true, if_false, Bool.false_eq_true, tTupF, tLstF, rAppendF, rPopF, rSetLF, rTupleOf, rListOf, rCatF, scal_ss, scal_ii, scal_bb, V_str_eq, V_int_eq, V_bl_eq, tML, tMS, tML0, rJoin, upd_same, upd_upd, HO.lst.injEq, exists_const, and_self, and_assoc, tSeq, tAsg, gName, tC, tVar, tOp, tUn, rI, rI0, rU, tTest, tB, tIfS, tRet, tRetN, tNext, tDrop, tCB, tCons, tNil, tTup, tLst, tCall, tBM, tBM0, tyV, rAppend, rPop, rEq, rNe, rIxL, rIxT, rIxS, tAnd, tOr, tNot, tAndV, tOrV, tNotV, tIf, tIsN, tNotN, tChain, tSl, tNoPart, tPart, rSlS, rInS, rCat, rCatT, gSub, rSetL, gTup, gCons, gNil, L2.start, List.map, List.length, List.replicate, List.getElem?_cons_zero, List.getElem?_cons_succ, List.set_cons_zero, List.set_cons_succ, List.cons_append, List.nil_append, List.append_nil, Option.some.injEq, exists_eq_left', V.ref.injEq, V.int.injEq, V.str.injEq, V.bl.injEq, V.ty.injEq, List.cons.injEq, and_true, true_and, exists_and_left, exists_eq_left, exists_eq', exists_eq_right, Nat.add_one_sub_one, Nat.sub_self, Nat.reduceAdd, Nat.reduceSub, spCell, spDraws, spPool, spSize, spWood]
    refine ⟨ns, hS, by decide, by decide, fun pl hpl hnd hL H1 s1 => ⟨ns, sqL_sm s1 hS, ns, sqL_sm s1 hS, by decide, by decide, fun r r0 r1 H2 s2 => ⟨r0, by omega, fun ds hds hdn ld hld => ?_⟩⟩⟩
    have s3 : Same H2 (upd H2 ld (.lst (ds.map V.int))) := same_new hld _
    have g3 : (upd H2 ld (.lst (ds.map V.int))) ld = some (.lst (ds.map V.int)) := upd_same
    generalize upd H2 ld (.lst (ds.map V.int)) = H3 at s3 g3
    refine ⟨ds, pl, rfl, 100, rfl, rfl, by omega, hdn, by rw [hpl]; decide, by decide, fun v T hh H4 s4 tr wf h1 hT hmk => ?_⟩
    have s14 := s1.trans (s2.trans (s3.trans s4))
    refine ⟨ns, sqL_sm s14 hS, by decide, by decide, fun ws hws hwn lw hlw => ?_⟩
    exact hPP _ _ ⟨pl, ld, lw, ws, v, T, rfl, hws, upd_same, s14.trans (same_new hlw _), tr.mono (SqT.same (same_new hlw _)), fun p hp => ⟨wf_le wf _ (List.mem_map_of_mem hp), mk_row hnd hL (hmk p hp)⟩, wf_tree wf h1, hT⟩
  rintro σ H1 ⟨pl, ld, lw, ws, v, T, rfl, hws, hw, G⟩
  refine cut1 (fun σ H' => ∃ (v : V) (T : List Pl) (o5 o6 o7 : Option V), σ = [some (.ref a), some (.str (tx pl)), some (.ref ld), some v, some (.ref lw), o5, o6, o7, none] ∧ Gt K H H' T v) ?_ ?_
  rotate_left
  · intro PP hPP
    obtain ⟨ta, tvs, rfl, htS, htp⟩ := G.tr
    have hvl := Paired.length htp
    simp only [tSortSet, tRevS, rSorted, tYes, tComp_def, cxOf, rLenQ, rLenS, rAddS, rLe1, rMax, rMin, rOrd, rInt1, tStrs, rIsi, if_true, if_false, Bool.false_eq_true, tTupF, tLstF, rAppendF, rPopF, rSetLF, rTupleOf, rListOf, rCatF, scal_ss, scal_ii, scal_bb, V_str_eq, V_int_eq, V_bl_eq, tML, tMS, tML0, rJoin, upd_same, upd_upd, HO.lst.injEq, exists_const, and_self, and_assoc, tSeq, tAsg, gName, tC, tVar, tOp, tUn, rI, rI0, rU, tTest, tB, tIfS, tRet, tRetN, tNext, tDrop, tCB, tCons, tNil, tTup, tLst, tCall, tBM, tBM0, tyV, rAppend, rPop, rEq, rNe, rIxL, rIxT, rIxS, tAnd, tOr, tNot, tAndV, tOrV, tNotV, tIf, tIsN, tNotN, tChain, tSl, tNoPart, tPart, rSlS, rInS, rCat, rCatT, gSub, rSetL, gTup, gCons, gNil, L2.start, List.map, List.length, List.replicate, List.getElem?_cons_zero, List.getElem?_cons_succ, List.set_cons_zero, List.set_cons_succ, List.cons_append, List.nil_append, List.append_nil, Option.some.injEq, exists_eq_left', V.ref.injEq, V.int.injEq, V.str.injEq, V.bl.injEq, V.ty.injEq, List.cons.injEq, and_true, true_and, exists_and_left, exists_eq_left, exists_eq', exists_eq_right, Nat.add_one_sub_one, Nat.sub_self, Nat.reduceAdd, Nat.reduceSub, spCell, spDraws, spLtrs, rCatA]
    have w_ : ∀ (k : Nat) (h : k < 4), atI (ws.map V.int) (k : Int) = some (.int (ws[k]'(by omega))) := fun k h => atI_int (k := k) (by omega)
    have tl := G.len
    refine ⟨tvs, .inr htS, ite2 (fun c => ⟨_, .of hw, _, w_ 0 (by decide), _, rfl, by decide, ite2 (fun _ => ?_) (fun _ => hPP _ _ ⟨_, T, none, none, none, rfl, G⟩)⟩) (fun _ => hPP _ _ ⟨_, T, none, none, none, rfl, G⟩)⟩
    have c : 0 < tvs.length := by simpa using c
    obtain ⟨ka, eka, hka⟩ := mod_at (ws[1] + (64 : Int) * ws[2]) (n := tvs.length) c
    obtain ⟨ya, hya, qa, eya, hqa⟩ := Paired.getE htp (List.getElem?_eq_getElem (show ka < T.length by omega))
    subst eya
    refine ⟨_, .of hw, _, w_ 1 (by decide), _, .of hw, _, w_ 2 (by decide), _, rfl, cmul_l (by decide) (by decide), _, rfl, tvs, .inr htS, by omega, ns, sqL_sm G.same hS, by decide, by decide, fun md hmd hm0 lm hlm => ?_⟩
    rw [eka]
    have hmd : md.length = 52 := hmd
    have s2 : Same H1 (upd H1 lm (.lst (md.map V.int))) := same_new hlm _
    have g2 : (upd H1 lm (.lst (md.map V.int))) lm = some (.lst (md.map V.int)) := upd_same
    generalize upd H1 lm (.lst (md.map V.int)) = H2 at s2 g2
    refine ⟨⟨[], tx_nil⟩, 52, rfl, by decide, by decide, comp_range (le_line (by decide)) (fun i ys Hc => Hc = H2 ∧ ∃ m : List Nat, ys = m.map (fun c => V.str (tx [c])) ∧ m.Sublist (abc.take i)) ⟨rfl, [], rfl, List.nil_sublist _⟩ ?_ ?_⟩
    · rintro i ys Hc hi hy ⟨rfl, m, rfl, hm⟩
      have hi : i < 52 := by simpa using hi
      have di : atI (md.map V.int) (0 + (i : Int)) = some (.int md[i]) := by rw [Int.zero_add]; exact atI_int (k := i) (by omega)
      have ab : (tx abc).length ≤ sizeLine := by rw [tx_len, abc_len]; exact le_line (by decide)
      have hia : i < abc.length := by rw [abc_len]; exact hi
      have ai : atI (tx abc).cps.toList (0 + (i : Int)) = some abc[i] := by rw [Int.zero_add, tx_cps]; exact atI_nat (List.getElem?_eq_getElem hia)
      have tks : abc.take (i + 1) = abc.take i ++ [abc[i]] := by rw [List.take_add_one, List.getElem?_eq_getElem hia]; rfl
      simp only [tSortSet, tRevS, rSorted, tYes, tComp_def, cxOf, rLenQ, rLenS, rAddS, rLe1, rMax, rMin, rOrd, rInt1, tStrs, rIsi, if_true, if_false, Bool.false_eq_true, tTupF, tLstF, rAppendF, rPopF, rSetLF, rTupleOf, rListOf, rCatF, scal_ss, scal_ii, scal_bb, V_str_eq, V_int_eq, V_bl_eq, tML, tMS, tML0, rJoin, upd_same, upd_upd, HO.lst.injEq, exists_const, and_self, and_assoc, tSeq, tAsg, gName, tC, tVar, tOp, tUn, rI, rI0, rU, tTest, tB, tIfS, tRet, tRetN, tNext, tDrop, tCB, tCons, tNil, tTup, tLst, tCall, tBM, tBM0, tyV, rAppend, rPop, rEq, rNe, rIxL, rIxT, rIxS, tAnd, tOr, tNot, tAndV, tOrV, tNotV, tIf, tIsN, tNotN, tChain, tSl, tNoPart, tPart, rSlS, rInS, rCat, rCatT, gSub, rSetL, gTup, gCons, gNil, L2.start, List.map, List.length, List.replicate, List.getElem?_cons_zero, List.getElem?_cons_succ, List.set_cons_zero, List.set_cons_succ, List.cons_append, List.nil_append, List.append_nil, Option.some.injEq, exists_eq_left', V.ref.injEq, V.int.injEq, V.str.injEq, V.bl.injEq, V.ty.injEq, List.cons.injEq, and_true, true_and, exists_and_left, exists_eq_left, exists_eq', exists_eq_right, Nat.add_one_sub_one, Nat.sub_self, Nat.reduceAdd, Nat.reduceSub, capSt, Option.bind, Option.join, spLtrs]
      refine ⟨_, rfl, lm, rfl, _, .of g2, _, di, _, rfl, by decide, ite2 (fun c => ⟨ab, _, ai, m ++ [abc[i]], by rw [List.map_append]; rfl, ?_⟩) (fun c => ⟨m, rfl, ?_⟩)⟩
      · rw [tks]; exact List.Sublist.append hm (List.Sublist.refl _)
      · rw [tks]; exact hm.trans (List.sublist_append_left _ _)
    · rintro ys H3 hy ⟨rfl, m, rfl, hm⟩ p H4 hp4 e4
      have hmr : RowOk m := sub_row (hm.trans (List.take_sublist _ _))
      have hml := hmr.le
      have s4 : Same H3 H4 := by rw [e4]; exact same_new hp4 _
      refine ⟨[], tx_nil, p, rfl, m.map fun c => [c], by rw [e4, List.map_map]; exact .of upd_same, by rw [ones_lens]; simp only [List.length_nil, Nat.mul_zero]; omega, ?_⟩
      rw [joinN_nil, ones_flat]
      have x4 := SqT.same (K := K) (s2.trans s4)
      refine ⟨ta, tvs, rfl, x4 _ _ htS, ?_, fun p1 h1 => ?_⟩
      · rw [HT.sIx_nat]; rintro ⟨_, z⟩; omega
      rw [cut_to (by omega)]
      have s5 : Same H4 (upd H4 p1 (.tup (tvs.take ka))) := same_new h1 _
      have g5 : (upd H4 p1 (.tup (tvs.take ka))) p1 = some (.tup (tvs.take ka)) := upd_same
      generalize upd H4 p1 (.tup (tvs.take ka)) = H5 at s5 g5
      have x5 := SqT.same (K := K) (s2.trans (s4.trans s5))
      refine ⟨_, x5 _ _ htS, _, atI_nat hya, qa, rfl, _, x5 _ _ hqa, _, rfl, le_line (by decide), fun p6 H6 h6 e6 => ⟨le_line (by decide), fun p7 H7 h7 e7 => ?_⟩⟩
      have s6 : Same H5 H6 := by rw [e6]; exact same_new h6 _
      have s7 : Same H6 H7 := by rw [e7]; exact same_new h7 _
      have g6 : H6 p6 = some (.tup [.int T[ka].1, .str (tx m)]) := by rw [e6, upd_same]
      refine ⟨p1, rfl, _, SqT.of (s7 _ _ (s6 _ _ g5)), _, by rw [e7]; exact SqT.new, le_line (by rw [List.length_take]; simp; omega), fun p8 H8 s8 t8 => ?_⟩
      have sA : Same H1 H8 := s2.trans (s4.trans (s5.trans (s6.trans (s7.trans s8))))
      have ek : (ka : Int) + 1 = ((ka + 1 : Nat) : Int) := by omega
      refine ⟨ta, tvs, rfl, SqT.same sA _ _ htS, ?_, fun p9 h9 => ?_⟩
      · rw [ek, HT.sIx_nat]; rintro ⟨z, _⟩; omega
      rw [ek, cut_fr (by omega)]
      have s9 : Same H8 (upd H8 p9 (.tup (tvs.drop (ka + 1)))) := same_new h9 _
      have g9 : (upd H8 p9 (.tup (tvs.drop (ka + 1)))) p9 = some (.tup (tvs.drop (ka + 1))) := upd_same
      generalize upd H8 p9 (.tup (tvs.drop (ka + 1))) = H9 at s9 g9
      refine ⟨p9, rfl, _, SqT.same s9 _ _ t8, _, SqT.of g9, le_line (by rw [List.length_append, List.length_take, List.length_drop]; simp; omega), fun p10 H10 s10 t10 => ?_⟩
      have sB : Same H1 H10 := sA.trans (s9.trans s10)
      have one : Paired (PlAt K H10) [((T[ka].1, m) : Pl)] [V.ref p6] := .cons ⟨p6, rfl, SqT.of ((s7.trans (s8.trans (s9.trans s10))) _ _ g6)⟩ .nil
      refine hPP _ _ ⟨.ref p10, T.take ka ++ [(T[ka].1, m)] ++ T.drop (ka + 1), _, _, _, rfl, G.same.trans sB, ⟨p10, _, rfl, t10, pr_app (pr_app (PlAts.mono (SqT.same sB) (pr_take ka htp)) one) (PlAts.mono (SqT.same sB) (pr_drop (ka + 1) htp))⟩, fun y hy => ?_, by rw [set_fst]; exact G.tree, by rw [List.length_append, List.length_append, List.length_take, List.length_drop]; simp; omega⟩
      rcases List.mem_append.mp hy with z | z
      · rcases List.mem_append.mp z with z | z
        · exact G.ok y (List.mem_of_mem_take z)
        · rw [List.mem_singleton] at z; rw [z]; exact ⟨(G.ok _ (List.getElem_mem _)).1, hmr⟩
      · exact G.ok y (List.mem_of_mem_drop z)
  rintro σ H2 ⟨v, T, o5, o6, o7, rfl, G⟩
  simp only [tSortSet, tRevS, rSorted, tYes, tComp_def, cxOf, rLenQ, rLenS, rAddS, rLe1, rMax, rMin, rOrd, rInt1, tStrs, rIsi, if_true, if_false, Bool.false_eq_true, tTupF, tLstF, rAppendF, rPopF, rSetLF, rTupleOf, rListOf, rCatF, scal_ss, scal_ii, scal_bb, V_str_eq, V_int_eq, V_bl_eq, tML, tMS, tML0, rJoin, upd_same, upd_upd, HO.lst.injEq, exists_const, and_self, and_assoc, tSeq, tAsg, gName, tC, tVar, tOp, tUn, rI, rI0, rU, tTest, tB, tIfS, tRet, tRetN, tNext, tDrop, tCB, tCons, tNil, tTup, tLst, tCall, tBM, tBM0, tyV, rAppend, rPop, rEq, rNe, rIxL, rIxT, rIxS, tAnd, tOr, tNot, tAndV, tOrV, tNotV, tIf, tIsN, tNotN, tChain, tSl, tNoPart, tPart, rSlS, rInS, rCat, rCatT, gSub, rSetL, gTup, gCons, gNil, L2.start, List.map, List.length, List.replicate, List.getElem?_cons_zero, List.getElem?_cons_succ, List.set_cons_zero, List.set_cons_succ, List.cons_append, List.nil_append, List.append_nil, Option.some.injEq, exists_eq_left', V.ref.injEq, V.int.injEq, V.str.injEq, V.bl.injEq, V.ty.injEq, List.cons.injEq, and_true, true_and, exists_and_left, exists_eq_left, exists_eq', exists_eq_right, Nat.add_one_sub_one, Nat.sub_self, Nat.reduceAdd, Nat.reduceSub, spText, spReadT]
  refine ⟨T, G.tr, G.ok, G.len, fun H3 s3 => ⟨T, G.tr.mono (SqT.same s3), G.ok, G.len, fun H4 s4 => ?_⟩⟩
  refine same_yes (d := .str _) dpS dpS (by show 1 ≤ 3; decide) (by show 1 ≤ 1000000; decide) ⟨true, rfl, if_tt rfl ⟨T, rfl, G.ok, G.tree, G.len, fun v1 H5 s5 tr1 => ?_⟩⟩
  have sz := tr_size T
  have ln := G.len
  exact same_yes (d := D.tup (T.map plD)) (tr_dp tr1) (tr_dp (G.tr.mono (SqT.same (s3.trans (s4.trans s5))))) (tr_dep T) (by omega) (q _)
end
end P
set_option Elab.async false
set_option linter.all false
set_option maxRecDepth 100000
set_option maxHeartbeats 4000000
namespace P
open PySem L2
theorem t_f0 : Str.ofString "0" = tx [48] := by decide +kernel
theorem t_f1 : Str.ofString "1" = tx [49] := by decide +kernel
theorem t_f2 : Str.ofString "2" = tx [50] := by decide +kernel
theorem t_f3 : Str.ofString "3" = tx [51] := by decide +kernel
theorem all_mk {l : PySem.W.OpenLaw} {w : World} {K : PySem.W.Frag} {h : Heap} {mg : Str → Option Value} {fa : Addr} (X : K.In h) (G : h.Ns mainGlobals mg) (hfa : mg "law" = some (.ref fa))
    {f_is_letter f_in_order f_is_row f_has_left f_has_right f_is_whole f_is_place f_is_tree f_tree_text f_read_place f_read_tree f__law_cell f__law_mixed f__law_draws f__law_size f__law_same f__law_pool f__law_marks f__law_wood f__law_letters f__law_text f_law : Addr} {od_is_letter an_is_letter od_in_order an_in_order od_is_row an_is_row od_has_left an_has_left od_has_right an_has_right od_is_whole an_is_whole od_is_place an_is_place od_is_tree an_is_tree od_tree_text an_tree_text od_read_place an_read_place od_read_tree an_read_tree od__law_cell an__law_cell od__law_mixed an__law_mixed od__law_draws an__law_draws od__law_size an__law_size od__law_same an__law_same od__law_pool an__law_pool od__law_marks an__law_marks od__law_wood an__law_wood od__law_letters an__law_letters od__law_text an__law_text od_law an_law : Option Addr} {sl_is_letter sl_in_order sl_is_row sl_has_left sl_has_right sl_is_whole sl_is_place sl_is_tree sl_tree_text sl_read_place sl_read_tree sl__law_cell sl__law_mixed sl__law_draws sl__law_size sl__law_same sl__law_pool sl__law_marks sl__law_wood sl__law_letters sl__law_text sl_law : Array (Option Value)} {oc_is_letter kV_is_letter dc_is_letter pm_is_letter cd_is_letter ct_is_letter oc_in_order kV_in_order dc_in_order pm_in_order cd_in_order ct_in_order oc_is_row kV_is_row dc_is_row pm_is_row cd_is_row ct_is_row oc_has_left kV_has_left dc_has_left pm_has_left cd_has_left ct_has_left oc_has_right kV_has_right dc_has_right pm_has_right cd_has_right ct_has_right oc_is_whole kV_is_whole dc_is_whole pm_is_whole cd_is_whole ct_is_whole oc_is_place kV_is_place dc_is_place pm_is_place cd_is_place ct_is_place oc_is_tree kV_is_tree dc_is_tree pm_is_tree cd_is_tree ct_is_tree oc_tree_text kV_tree_text dc_tree_text pm_tree_text cd_tree_text ct_tree_text oc_read_place kV_read_place dc_read_place pm_read_place cd_read_place ct_read_place oc_read_tree kV_read_tree dc_read_tree pm_read_tree cd_read_tree ct_read_tree oc__law_cell kV__law_cell dc__law_cell pm__law_cell cd__law_cell ct__law_cell oc__law_mixed kV__law_mixed dc__law_mixed pm__law_mixed cd__law_mixed ct__law_mixed oc__law_draws kV__law_draws dc__law_draws pm__law_draws cd__law_draws ct__law_draws oc__law_size kV__law_size dc__law_size pm__law_size cd__law_size ct__law_size oc__law_same kV__law_same dc__law_same pm__law_same cd__law_same ct__law_same oc__law_pool kV__law_pool dc__law_pool pm__law_pool cd__law_pool ct__law_pool oc__law_marks kV__law_marks dc__law_marks pm__law_marks cd__law_marks ct__law_marks oc__law_wood kV__law_wood dc__law_wood pm__law_wood cd__law_wood ct__law_wood oc__law_letters kV__law_letters dc__law_letters pm__law_letters cd__law_letters ct__law_letters oc__law_text kV__law_text dc__law_text pm__law_text cd__law_text ct__law_text oc_law kV_law dc_law pm_law cd_law ct_law : Value} {q_ALL_LETTERS : Tok} {q_EMPTY : Tok} {A_FIGURES : Addr} {od_FIGURES : Option Addr} {sl_FIGURES : Array (Option Value)} {nn_FIGURES : Nat} {q_FIGURES_0 q_FIGURES_1 q_FIGURES_2 q_FIGURES_3 : Tok} {q_MOST_PLACES : Tok}
    (a_is_letter : PySem.W.nsIn K mainGlobals "is_letter" = some (some (.ref f_is_letter)))
    (l_is_letter : K.lookup f_is_letter = some ⟨oc_is_letter, od_is_letter, .func (PySem.W.fnOf "is_letter" "is_letter" (defArgs s_is_letter) (defBody s_is_letter) (defScope s_is_letter) .none kV_is_letter dc_is_letter pm_is_letter an_is_letter cd_is_letter ct_is_letter), sl_is_letter⟩)
    (c_is_letter : PySem.W.codeIn K cd_is_letter "is_letter" = true)
    (k_is_letter : PySem.W.keepIn K (.ref f_is_letter) = true)
    (a_in_order : PySem.W.nsIn K mainGlobals "in_order" = some (some (.ref f_in_order)))
    (l_in_order : K.lookup f_in_order = some ⟨oc_in_order, od_in_order, .func (PySem.W.fnOf "in_order" "in_order" (defArgs s_in_order) (defBody s_in_order) (defScope s_in_order) .none kV_in_order dc_in_order pm_in_order an_in_order cd_in_order ct_in_order), sl_in_order⟩)
    (c_in_order : PySem.W.codeIn K cd_in_order "in_order" = true)
    (k_in_order : PySem.W.keepIn K (.ref f_in_order) = true)
    (a_is_row : PySem.W.nsIn K mainGlobals "is_row" = some (some (.ref f_is_row)))
    (l_is_row : K.lookup f_is_row = some ⟨oc_is_row, od_is_row, .func (PySem.W.fnOf "is_row" "is_row" (defArgs s_is_row) (defBody s_is_row) (defScope s_is_row) .none kV_is_row dc_is_row pm_is_row an_is_row cd_is_row ct_is_row), sl_is_row⟩)
    (c_is_row : PySem.W.codeIn K cd_is_row "is_row" = true)
    (k_is_row : PySem.W.keepIn K (.ref f_is_row) = true)
    (a_has_left : PySem.W.nsIn K mainGlobals "has_left" = some (some (.ref f_has_left)))
    (l_has_left : K.lookup f_has_left = some ⟨oc_has_left, od_has_left, .func (PySem.W.fnOf "has_left" "has_left" (defArgs s_has_left) (defBody s_has_left) (defScope s_has_left) .none kV_has_left dc_has_left pm_has_left an_has_left cd_has_left ct_has_left), sl_has_left⟩)
    (c_has_left : PySem.W.codeIn K cd_has_left "has_left" = true)
    (k_has_left : PySem.W.keepIn K (.ref f_has_left) = true)
    (a_has_right : PySem.W.nsIn K mainGlobals "has_right" = some (some (.ref f_has_right)))
    (l_has_right : K.lookup f_has_right = some ⟨oc_has_right, od_has_right, .func (PySem.W.fnOf "has_right" "has_right" (defArgs s_has_right) (defBody s_has_right) (defScope s_has_right) .none kV_has_right dc_has_right pm_has_right an_has_right cd_has_right ct_has_right), sl_has_right⟩)
    (c_has_right : PySem.W.codeIn K cd_has_right "has_right" = true)
    (k_has_right : PySem.W.keepIn K (.ref f_has_right) = true)
    (a_is_whole : PySem.W.nsIn K mainGlobals "is_whole" = some (some (.ref f_is_whole)))
    (l_is_whole : K.lookup f_is_whole = some ⟨oc_is_whole, od_is_whole, .func (PySem.W.fnOf "is_whole" "is_whole" (defArgs s_is_whole) (defBody s_is_whole) (defScope s_is_whole) .none kV_is_whole dc_is_whole pm_is_whole an_is_whole cd_is_whole ct_is_whole), sl_is_whole⟩)
    (c_is_whole : PySem.W.codeIn K cd_is_whole "is_whole" = true)
    (k_is_whole : PySem.W.keepIn K (.ref f_is_whole) = true)
    (a_is_place : PySem.W.nsIn K mainGlobals "is_place" = some (some (.ref f_is_place)))
    (l_is_place : K.lookup f_is_place = some ⟨oc_is_place, od_is_place, .func (PySem.W.fnOf "is_place" "is_place" (defArgs s_is_place) (defBody s_is_place) (defScope s_is_place) .none kV_is_place dc_is_place pm_is_place an_is_place cd_is_place ct_is_place), sl_is_place⟩)
    (c_is_place : PySem.W.codeIn K cd_is_place "is_place" = true)
    (k_is_place : PySem.W.keepIn K (.ref f_is_place) = true)
    (a_is_tree : PySem.W.nsIn K mainGlobals "is_tree" = some (some (.ref f_is_tree)))
    (l_is_tree : K.lookup f_is_tree = some ⟨oc_is_tree, od_is_tree, .func (PySem.W.fnOf "is_tree" "is_tree" (defArgs s_is_tree) (defBody s_is_tree) (defScope s_is_tree) .none kV_is_tree dc_is_tree pm_is_tree an_is_tree cd_is_tree ct_is_tree), sl_is_tree⟩)
    (c_is_tree : PySem.W.codeIn K cd_is_tree "is_tree" = true)
    (k_is_tree : PySem.W.keepIn K (.ref f_is_tree) = true)
    (a_tree_text : PySem.W.nsIn K mainGlobals "tree_text" = some (some (.ref f_tree_text)))
    (l_tree_text : K.lookup f_tree_text = some ⟨oc_tree_text, od_tree_text, .func (PySem.W.fnOf "tree_text" "tree_text" (defArgs s_tree_text) (defBody s_tree_text) (defScope s_tree_text) .none kV_tree_text dc_tree_text pm_tree_text an_tree_text cd_tree_text ct_tree_text), sl_tree_text⟩)
    (c_tree_text : PySem.W.codeIn K cd_tree_text "tree_text" = true)
    (k_tree_text : PySem.W.keepIn K (.ref f_tree_text) = true)
    (a_read_place : PySem.W.nsIn K mainGlobals "read_place" = some (some (.ref f_read_place)))
    (l_read_place : K.lookup f_read_place = some ⟨oc_read_place, od_read_place, .func (PySem.W.fnOf "read_place" "read_place" (defArgs s_read_place) (defBody s_read_place) (defScope s_read_place) .none kV_read_place dc_read_place pm_read_place an_read_place cd_read_place ct_read_place), sl_read_place⟩)
    (c_read_place : PySem.W.codeIn K cd_read_place "read_place" = true)
    (k_read_place : PySem.W.keepIn K (.ref f_read_place) = true)
    (a_read_tree : PySem.W.nsIn K mainGlobals "read_tree" = some (some (.ref f_read_tree)))
    (l_read_tree : K.lookup f_read_tree = some ⟨oc_read_tree, od_read_tree, .func (PySem.W.fnOf "read_tree" "read_tree" (defArgs s_read_tree) (defBody s_read_tree) (defScope s_read_tree) .none kV_read_tree dc_read_tree pm_read_tree an_read_tree cd_read_tree ct_read_tree), sl_read_tree⟩)
    (c_read_tree : PySem.W.codeIn K cd_read_tree "read_tree" = true)
    (k_read_tree : PySem.W.keepIn K (.ref f_read_tree) = true)
    (a__law_cell : PySem.W.nsIn K mainGlobals "_law_cell" = some (some (.ref f__law_cell)))
    (l__law_cell : K.lookup f__law_cell = some ⟨oc__law_cell, od__law_cell, .func (PySem.W.fnOf "_law_cell" "_law_cell" (defArgs s__law_cell) (defBody s__law_cell) (defScope s__law_cell) .none kV__law_cell dc__law_cell pm__law_cell an__law_cell cd__law_cell ct__law_cell), sl__law_cell⟩)
    (c__law_cell : PySem.W.codeIn K cd__law_cell "_law_cell" = true)
    (k__law_cell : PySem.W.keepIn K (.ref f__law_cell) = true)
    (a__law_mixed : PySem.W.nsIn K mainGlobals "_law_mixed" = some (some (.ref f__law_mixed)))
    (l__law_mixed : K.lookup f__law_mixed = some ⟨oc__law_mixed, od__law_mixed, .func (PySem.W.fnOf "_law_mixed" "_law_mixed" (defArgs s__law_mixed) (defBody s__law_mixed) (defScope s__law_mixed) .none kV__law_mixed dc__law_mixed pm__law_mixed an__law_mixed cd__law_mixed ct__law_mixed), sl__law_mixed⟩)
    (c__law_mixed : PySem.W.codeIn K cd__law_mixed "_law_mixed" = true)
    (k__law_mixed : PySem.W.keepIn K (.ref f__law_mixed) = true)
    (a__law_draws : PySem.W.nsIn K mainGlobals "_law_draws" = some (some (.ref f__law_draws)))
    (l__law_draws : K.lookup f__law_draws = some ⟨oc__law_draws, od__law_draws, .func (PySem.W.fnOf "_law_draws" "_law_draws" (defArgs s__law_draws) (defBody s__law_draws) (defScope s__law_draws) .none kV__law_draws dc__law_draws pm__law_draws an__law_draws cd__law_draws ct__law_draws), sl__law_draws⟩)
    (c__law_draws : PySem.W.codeIn K cd__law_draws "_law_draws" = true)
    (k__law_draws : PySem.W.keepIn K (.ref f__law_draws) = true)
    (a__law_size : PySem.W.nsIn K mainGlobals "_law_size" = some (some (.ref f__law_size)))
    (l__law_size : K.lookup f__law_size = some ⟨oc__law_size, od__law_size, .func (PySem.W.fnOf "_law_size" "_law_size" (defArgs s__law_size) (defBody s__law_size) (defScope s__law_size) .none kV__law_size dc__law_size pm__law_size an__law_size cd__law_size ct__law_size), sl__law_size⟩)
    (c__law_size : PySem.W.codeIn K cd__law_size "_law_size" = true)
    (k__law_size : PySem.W.keepIn K (.ref f__law_size) = true)
    (a__law_same : PySem.W.nsIn K mainGlobals "_law_same" = some (some (.ref f__law_same)))
    (l__law_same : K.lookup f__law_same = some ⟨oc__law_same, od__law_same, .func (PySem.W.fnOf "_law_same" "_law_same" (defArgs s__law_same) (defBody s__law_same) (defScope s__law_same) .none kV__law_same dc__law_same pm__law_same an__law_same cd__law_same ct__law_same), sl__law_same⟩)
    (c__law_same : PySem.W.codeIn K cd__law_same "_law_same" = true)
    (k__law_same : PySem.W.keepIn K (.ref f__law_same) = true)
    (a__law_pool : PySem.W.nsIn K mainGlobals "_law_pool" = some (some (.ref f__law_pool)))
    (l__law_pool : K.lookup f__law_pool = some ⟨oc__law_pool, od__law_pool, .func (PySem.W.fnOf "_law_pool" "_law_pool" (defArgs s__law_pool) (defBody s__law_pool) (defScope s__law_pool) .none kV__law_pool dc__law_pool pm__law_pool an__law_pool cd__law_pool ct__law_pool), sl__law_pool⟩)
    (c__law_pool : PySem.W.codeIn K cd__law_pool "_law_pool" = true)
    (k__law_pool : PySem.W.keepIn K (.ref f__law_pool) = true)
    (a__law_marks : PySem.W.nsIn K mainGlobals "_law_marks" = some (some (.ref f__law_marks)))
    (l__law_marks : K.lookup f__law_marks = some ⟨oc__law_marks, od__law_marks, .func (PySem.W.fnOf "_law_marks" "_law_marks" (defArgs s__law_marks) (defBody s__law_marks) (defScope s__law_marks) .none kV__law_marks dc__law_marks pm__law_marks an__law_marks cd__law_marks ct__law_marks), sl__law_marks⟩)
    (c__law_marks : PySem.W.codeIn K cd__law_marks "_law_marks" = true)
    (k__law_marks : PySem.W.keepIn K (.ref f__law_marks) = true)
    (a__law_wood : PySem.W.nsIn K mainGlobals "_law_wood" = some (some (.ref f__law_wood)))
    (l__law_wood : K.lookup f__law_wood = some ⟨oc__law_wood, od__law_wood, .func (PySem.W.fnOf "_law_wood" "_law_wood" (defArgs s__law_wood) (defBody s__law_wood) (defScope s__law_wood) .none kV__law_wood dc__law_wood pm__law_wood an__law_wood cd__law_wood ct__law_wood), sl__law_wood⟩)
    (c__law_wood : PySem.W.codeIn K cd__law_wood "_law_wood" = true)
    (k__law_wood : PySem.W.keepIn K (.ref f__law_wood) = true)
    (a__law_letters : PySem.W.nsIn K mainGlobals "_law_letters" = some (some (.ref f__law_letters)))
    (l__law_letters : K.lookup f__law_letters = some ⟨oc__law_letters, od__law_letters, .func (PySem.W.fnOf "_law_letters" "_law_letters" (defArgs s__law_letters) (defBody s__law_letters) (defScope s__law_letters) .none kV__law_letters dc__law_letters pm__law_letters an__law_letters cd__law_letters ct__law_letters), sl__law_letters⟩)
    (c__law_letters : PySem.W.codeIn K cd__law_letters "_law_letters" = true)
    (k__law_letters : PySem.W.keepIn K (.ref f__law_letters) = true)
    (a__law_text : PySem.W.nsIn K mainGlobals "_law_text" = some (some (.ref f__law_text)))
    (l__law_text : K.lookup f__law_text = some ⟨oc__law_text, od__law_text, .func (PySem.W.fnOf "_law_text" "_law_text" (defArgs s__law_text) (defBody s__law_text) (defScope s__law_text) .none kV__law_text dc__law_text pm__law_text an__law_text cd__law_text ct__law_text), sl__law_text⟩)
    (c__law_text : PySem.W.codeIn K cd__law_text "_law_text" = true)
    (k__law_text : PySem.W.keepIn K (.ref f__law_text) = true)
    (a_law : PySem.W.nsIn K mainGlobals "law" = some (some (.ref f_law)))
    (l_law : K.lookup f_law = some ⟨oc_law, od_law, .func (PySem.W.fnOf "law" "law" (defArgs s_law) (defBody s_law) (defScope s_law) .none kV_law dc_law pm_law an_law cd_law ct_law), sl_law⟩)
    (c_law : PySem.W.codeIn K cd_law "law" = true)
    (k_law : PySem.W.keepIn K (.ref f_law) = true)
    (z_all : PySem.W.nsIn K mainGlobals "all" = some none)
    (z_bool : PySem.W.nsIn K mainGlobals "bool" = some none)
    (z_int : PySem.W.nsIn K mainGlobals "int" = some none)
    (z_isinstance : PySem.W.nsIn K mainGlobals "isinstance" = some none)
    (z_len : PySem.W.nsIn K mainGlobals "len" = some none)
    (z_range : PySem.W.nsIn K mainGlobals "range" = some none)
    (z_set : PySem.W.nsIn K mainGlobals "set" = some none)
    (z_sorted : PySem.W.nsIn K mainGlobals "sorted" = some none)
    (z_str : PySem.W.nsIn K mainGlobals "str" = some none)
    (z_tuple : PySem.W.nsIn K mainGlobals "tuple" = some none)
    (a_ALL_LETTERS : PySem.W.nsIn K mainGlobals "ALL_LETTERS" = some (some (.str "ABCDEFGHIJKLMNOPQRSTUVWXYZabcdefghijklmnopqrstuvwxyz" q_ALL_LETTERS)))
    (a_EMPTY : PySem.W.nsIn K mainGlobals "EMPTY" = some (some (.str "-" q_EMPTY)))
    (a_FIGURES : PySem.W.nsIn K mainGlobals "FIGURES" = some (some (.ref A_FIGURES)))
    (l_FIGURES : K.lookup A_FIGURES = some ⟨.type "tuple", od_FIGURES, .seq #[.str "0" q_FIGURES_0, .str "1" q_FIGURES_1, .str "2" q_FIGURES_2, .str "3" q_FIGURES_3] nn_FIGURES, sl_FIGURES⟩)
    (a_MOST_PLACES : PySem.W.nsIn K mainGlobals "MOST_PLACES" = some (some (.int 100 q_MOST_PLACES))) :
    ∃ fd : FuncData, (∀ (s : Shared) (v : Value), BindsTo s fd ⟨[v], []⟩ [("_law_script", v)]) ∧ ∀ base : Heap, K.In base → base.Ns mainGlobals mg → FnOk l.prog w K mg base CX0 40 fa fd p_law (spLaw K) := by
  have e := hfa.symm.trans (PySem.W.mg_of X G a_law)
  cases e
  have F_is_letter := fun_mk (st := s_is_letter) l_is_letter c_is_letter k_is_letter
  have m_is_letter := PySem.W.mg_of X G a_is_letter
  have F_in_order := fun_mk (st := s_in_order) l_in_order c_in_order k_in_order
  have m_in_order := PySem.W.mg_of X G a_in_order
  have F_is_row := fun_mk (st := s_is_row) l_is_row c_is_row k_is_row
  have m_is_row := PySem.W.mg_of X G a_is_row
  have F_has_left := fun_mk (st := s_has_left) l_has_left c_has_left k_has_left
  have m_has_left := PySem.W.mg_of X G a_has_left
  have F_has_right := fun_mk (st := s_has_right) l_has_right c_has_right k_has_right
  have m_has_right := PySem.W.mg_of X G a_has_right
  have F_is_whole := fun_mk (st := s_is_whole) l_is_whole c_is_whole k_is_whole
  have m_is_whole := PySem.W.mg_of X G a_is_whole
  have F_is_place := fun_mk (st := s_is_place) l_is_place c_is_place k_is_place
  have m_is_place := PySem.W.mg_of X G a_is_place
  have F_is_tree := fun_mk (st := s_is_tree) l_is_tree c_is_tree k_is_tree
  have m_is_tree := PySem.W.mg_of X G a_is_tree
  have F_tree_text := fun_mk (st := s_tree_text) l_tree_text c_tree_text k_tree_text
  have m_tree_text := PySem.W.mg_of X G a_tree_text
  have F_read_place := fun_mk (st := s_read_place) l_read_place c_read_place k_read_place
  have m_read_place := PySem.W.mg_of X G a_read_place
  have F_read_tree := fun_mk (st := s_read_tree) l_read_tree c_read_tree k_read_tree
  have m_read_tree := PySem.W.mg_of X G a_read_tree
  have F__law_cell := fun_mk (st := s__law_cell) l__law_cell c__law_cell k__law_cell
  have m__law_cell := PySem.W.mg_of X G a__law_cell
  have F__law_mixed := fun_mk (st := s__law_mixed) l__law_mixed c__law_mixed k__law_mixed
  have m__law_mixed := PySem.W.mg_of X G a__law_mixed
  have F__law_draws := fun_mk (st := s__law_draws) l__law_draws c__law_draws k__law_draws
  have m__law_draws := PySem.W.mg_of X G a__law_draws
  have F__law_size := fun_mk (st := s__law_size) l__law_size c__law_size k__law_size
  have m__law_size := PySem.W.mg_of X G a__law_size
  have F__law_same := fun_mk (st := s__law_same) l__law_same c__law_same k__law_same
  have m__law_same := PySem.W.mg_of X G a__law_same
  have F__law_pool := fun_mk (st := s__law_pool) l__law_pool c__law_pool k__law_pool
  have m__law_pool := PySem.W.mg_of X G a__law_pool
  have F__law_marks := fun_mk (st := s__law_marks) l__law_marks c__law_marks k__law_marks
  have m__law_marks := PySem.W.mg_of X G a__law_marks
  have F__law_wood := fun_mk (st := s__law_wood) l__law_wood c__law_wood k__law_wood
  have m__law_wood := PySem.W.mg_of X G a__law_wood
  have F__law_letters := fun_mk (st := s__law_letters) l__law_letters c__law_letters k__law_letters
  have m__law_letters := PySem.W.mg_of X G a__law_letters
  have F__law_text := fun_mk (st := s__law_text) l__law_text c__law_text k__law_text
  have m__law_text := PySem.W.mg_of X G a__law_text
  have F_law := fun_mk (st := s_law) l_law c_law k_law
  have m_law := PySem.W.mg_of X G a_law
  have B : Bl mg := ⟨PySem.W.mg_none_of X G z_all, PySem.W.mg_none_of X G z_bool, PySem.W.mg_none_of X G z_int, PySem.W.mg_none_of X G z_isinstance, PySem.W.mg_none_of X G z_len, PySem.W.mg_none_of X G z_range, PySem.W.mg_none_of X G z_set, PySem.W.mg_none_of X G z_sorted, PySem.W.mg_none_of X G z_str, PySem.W.mg_none_of X G z_tuple⟩
  have C : Gc K mg A_FIGURES := ⟨⟨_, PySem.W.mg_of X G a_EMPTY, _, rfl⟩, ⟨_, PySem.W.mg_of X G a_MOST_PLACES, _, rfl⟩, ⟨_, PySem.W.mg_of X G a_FIGURES, rfl⟩,
    fun H => .inr ⟨_, _, _, l_FIGURES, rfl, rfl, le_line (by show 4 < 1000000; decide), .cons ⟨_, by rw [← t_f0]⟩ (.cons ⟨_, by rw [← t_f1]⟩ (.cons ⟨_, by rw [← t_f2]⟩ (.cons ⟨_, by rw [← t_f3]⟩ .nil)))⟩,
    ⟨_, PySem.W.mg_of X G a_ALL_LETTERS, _, rfl⟩⟩
  refine ⟨PySem.W.fnOf "law" "law" (defArgs s_law) (defBody s_law) (defScope s_law) .none kV_law dc_law pm_law an_law cd_law ct_law, fun s v => .of_eq rfl, fun base _ _ => ?_⟩
  have h1 : Has l.prog w K mg base 1 "_law_cell" p__law_cell (spCell K) := has_mk F__law_cell m__law_cell (fun _ _ _ _ _ _ us hl => match us, hl with | [_, _], _ => rfl) (ok_cell F__law_cell B)
  have h2 : Has l.prog w K mg base 1 "_law_mixed" p__law_mixed spMixed := has_mk F__law_mixed m__law_mixed (fun _ _ _ _ _ _ us hl => match us, hl with | [_, _, _], _ => rfl) (ok_mixed F__law_mixed)
  have h3 : Has l.prog w K mg base 2 "_law_draws" p__law_draws spDraws := has_mk F__law_draws m__law_draws (fun _ _ _ _ _ _ us hl => match us, hl with | [_, _, _], _ => rfl) (ok_draws F__law_draws B h2)
  have h4 : Has l.prog w K mg base 3 "_law_pool" p__law_pool spPool := has_mk F__law_pool m__law_pool (fun _ _ _ _ _ _ us hl => match us, hl with | [_, _, _], _ => rfl) (ok_pool F__law_pool B h3)
  have h5 : Has l.prog w K mg base 3 "_law_size" p__law_size spSize := has_mk F__law_size m__law_size (fun _ _ _ _ _ _ us hl => match us, hl with | [_, _, _], _ => rfl) (ok_size F__law_size B h3)
  have h6 : Has l.prog w K mg base 1 "_law_marks" p__law_marks spMarks := has_mk F__law_marks m__law_marks (fun _ _ _ _ _ _ us hl => match us, hl with | [_, _], _ => rfl) (ok_marks F__law_marks B)
  have h7 : Has l.prog w K mg base 2 "_law_wood" p__law_wood (spWood K) := has_mk F__law_wood m__law_wood (fun _ _ _ _ _ _ us hl => match us, hl with | [_, _, _], _ => rfl) (ok_wood F__law_wood B h6)
  have h8 : Has l.prog w K mg base 1 "_law_letters" p__law_letters spLtrs := has_mk F__law_letters m__law_letters (fun _ _ _ _ _ _ us hl => match us, hl with | [], _ => rfl) (ok_letters F__law_letters)
  have h9 : Has l.prog w K mg base 1 "_law_text" p__law_text (spText K) := has_mk F__law_text m__law_text (fun _ _ _ _ _ _ us hl => match us, hl with | [_], _ => rfl) (ok_text F__law_text B)
  have h10 : Has l.prog w K mg base 1 "is_letter" p_is_letter spLett := has_mk F_is_letter m_is_letter (fun _ _ _ _ _ _ us hl => match us, hl with | [_], _ => rfl) (ok_is_letter F_is_letter B C)
  have h11 : Has l.prog w K mg base 1 "in_order" p_in_order spOrd := has_mk F_in_order m_in_order (fun _ _ _ _ _ _ us hl => match us, hl with | [_], _ => rfl) (ok_in_order F_in_order B)
  have h12 : Has l.prog w K mg base 2 "is_row" p_is_row spRow := has_mk F_is_row m_is_row (fun _ _ _ _ _ _ us hl => match us, hl with | [_], _ => rfl) (ok_is_row F_is_row B h10 h11)
  have h13 : Has l.prog w K mg base 1 "is_whole" p_is_whole spWhole := has_mk F_is_whole m_is_whole (fun _ _ _ _ _ _ us hl => match us, hl with | [_], _ => rfl) (ok_is_whole F_is_whole B)
  have h14 : Has l.prog w K mg base 3 "is_place" p_is_place (spPlace K) := has_mk F_is_place m_is_place (fun _ _ _ _ _ _ us hl => match us, hl with | [_], _ => rfl) (ok_is_place F_is_place B h13 h12)
  have h15 : Has l.prog w K mg base 1 "has_left" p_has_left (spHas K hasL) := has_mk F_has_left m_has_left (fun _ _ _ _ _ _ us hl => match us, hl with | [_], _ => rfl) (ok_has_left F_has_left)
  have h16 : Has l.prog w K mg base 1 "has_right" p_has_right (spHas K hasR) := has_mk F_has_right m_has_right (fun _ _ _ _ _ _ us hl => match us, hl with | [_], _ => rfl) (ok_has_right F_has_right)
  have h17 : Has l.prog w K mg base 4 "is_tree" p_is_tree (spTree K) := has_mk F_is_tree m_is_tree (fun _ _ _ _ _ _ us hl => match us, hl with | [_], _ => rfl) (ok_is_tree F_is_tree B h14 h15 h16)
  have h18 := has_same (P := l.prog) (w := w) (base := base) F__law_same m__law_same B 3
  have h20 : Has l.prog w K mg base 1 "tree_text" p_tree_text (spText K) := has_mk F_tree_text m_tree_text (fun _ _ _ _ _ _ us hl => match us, hl with | [_], _ => rfl) (ok_tree_text F_tree_text B C)
  have h21 : Has l.prog w K mg base 1 "read_place" p_read_place (spRead K) := has_mk F_read_place m_read_place (fun _ _ _ _ _ _ us hl => match us, hl with | [_], _ => rfl) (ok_read_place F_read_place B C)
  have h22 : Has l.prog w K mg base 5 "read_tree" p_read_tree (spReadT K) := has_mk F_read_tree m_read_tree (fun _ _ _ _ _ _ us hl => match us, hl with | [_], _ => rfl) (ok_read_tree F_read_tree B C h21 h17)
  exact ok_law F_law B h1 h3 h4 h5 h7 h8 h9 h20 h22 h18
theorem walk {l : PySem.W.OpenLaw} {q : Program} {loose : List Str} {XP : (Str → Option Value) → Heap → Prop} {YP : World → Heap → Prop} {d : DefRec} {K : Params → PySem.W.Frag} (hn : l.most = some 63) (hdf : d.params.defaults = [])
    (hY : ∀ (w : World) (h : Heap), YP w h → (K w.params).In h)
    (F : ∀ (w : World) (mg : Str → Option Value) (fa : Addr) (h : Heap), (K w.params).In h → h.Ns mainGlobals mg → mg d.name = some (.ref fa) →
      ∃ fd : FuncData, (∀ (s : Shared) (u : Value), BindsTo s fd ⟨[u], []⟩ [("_law_script", u)]) ∧ ∀ base : Heap, (K w.params).In base → base.Ns mainGlobals mg → FnOk l.prog w (K w.params) mg base CX0 40 fa fd ["_law_script"] (spLaw (K w.params))) :
    PySem.W.WalkO q loose XP YP l.row.toRowW d [] (fun f vs => PySem.call f vs) :=
  L2.walk_of (n := 63) (k := 40) (x := "_law_script") (CX := fun _ => CX0) (sp := fun w => spLaw (K w.params)) hn (by decide) hdf ⟨rfl, by decide, by decide⟩ hY F (fun _ _ a ns hl _ hS => ⟨a, ns, rfl, hS, hl, fun _ => rfl⟩) fun _ _ _ _ _ z => z
end P
open PySem PySem.W PyProof.Rows
set_option maxRecDepth 100000 in
set_option maxHeartbeats 0 in
theorem PySem.Challenge.cw_trunksay_k09_trees_written_and_read_holds : PySem.Challenge.rw_trunksay_k09_trees_written_and_read.Holds := by
  w_on; o_law; k_head; (case hw => w_witness2)
  k_fill
  refine P.walk (l := PySem.Challenge.rw_trunksay_k09_trees_written_and_read) rfl rfl (fun w h Y => PySem.W.kIn_of Y) ?F
  case F =>
    intro w mg fa h KX G hmg
    refine' P.all_mk KX G hmg ?a_is_letter ?l_is_letter ?c_is_letter ?k_is_letter ?a_in_order ?l_in_order ?c_in_order ?k_in_order ?a_is_row ?l_is_row ?c_is_row ?k_is_row ?a_has_left ?l_has_left ?c_has_left ?k_has_left ?a_has_right ?l_has_right ?c_has_right ?k_has_right ?a_is_whole ?l_is_whole ?c_is_whole ?k_is_whole ?a_is_place ?l_is_place ?c_is_place ?k_is_place ?a_is_tree ?l_is_tree ?c_is_tree ?k_is_tree ?a_tree_text ?l_tree_text ?c_tree_text ?k_tree_text ?a_read_place ?l_read_place ?c_read_place ?k_read_place ?a_read_tree ?l_read_tree ?c_read_tree ?k_read_tree ?a__law_cell ?l__law_cell ?c__law_cell ?k__law_cell ?a__law_mixed ?l__law_mixed ?c__law_mixed ?k__law_mixed ?a__law_draws ?l__law_draws ?c__law_draws ?k__law_draws ?a__law_size ?l__law_size ?c__law_size ?k__law_size ?a__law_same ?l__law_same ?c__law_same ?k__law_same ?a__law_pool ?l__law_pool ?c__law_pool ?k__law_pool ?a__law_marks ?l__law_marks ?c__law_marks ?k__law_marks ?a__law_wood ?l__law_wood ?c__law_wood ?k__law_wood ?a__law_letters ?l__law_letters ?c__law_letters ?k__law_letters ?a__law_text ?l__law_text ?c__law_text ?k__law_text ?a_law ?l_law ?c_law ?k_law ?z_all ?z_bool ?z_int ?z_isinstance ?z_len ?z_range ?z_set ?z_sorted ?z_str ?z_tuple ?a_ALL_LETTERS ?a_EMPTY ?a_FIGURES ?l_FIGURES ?a_MOST_PLACES
    (case a_is_letter => k_is)
    (case l_is_letter => k_is)
    (case c_is_letter => k_is)
    (case k_is_letter => k_is)
    (case a_in_order => k_is)
    (case l_in_order => k_is)
    (case c_in_order => k_is)
    (case k_in_order => k_is)
    (case a_is_row => k_is)
    (case l_is_row => k_is)
    (case c_is_row => k_is)
    (case k_is_row => k_is)
    (case a_has_left => k_is)
    (case l_has_left => k_is)
    (case c_has_left => k_is)
    (case k_has_left => k_is)
    (case a_has_right => k_is)
    (case l_has_right => k_is)
    (case c_has_right => k_is)
    (case k_has_right => k_is)
    (case a_is_whole => k_is)
    (case l_is_whole => k_is)
    (case c_is_whole => k_is)
    (case k_is_whole => k_is)
    (case a_is_place => k_is)
    (case l_is_place => k_is)
    (case c_is_place => k_is)
    (case k_is_place => k_is)
    (case a_is_tree => k_is)
    (case l_is_tree => k_is)
    (case c_is_tree => k_is)
    (case k_is_tree => k_is)
    (case a_tree_text => k_is)
    (case l_tree_text => k_is)
    (case c_tree_text => k_is)
    (case k_tree_text => k_is)
    (case a_read_place => k_is)
    (case l_read_place => k_is)
    (case c_read_place => k_is)
    (case k_read_place => k_is)
    (case a_read_tree => k_is)
    (case l_read_tree => k_is)
    (case c_read_tree => k_is)
    (case k_read_tree => k_is)
    (case a__law_cell => k_is)
    (case l__law_cell => k_is)
    (case c__law_cell => k_is)
    (case k__law_cell => k_is)
    (case a__law_mixed => k_is)
    (case l__law_mixed => k_is)
    (case c__law_mixed => k_is)
    (case k__law_mixed => k_is)
    (case a__law_draws => k_is)
    (case l__law_draws => k_is)
    (case c__law_draws => k_is)
    (case k__law_draws => k_is)
    (case a__law_size => k_is)
    (case l__law_size => k_is)
    (case c__law_size => k_is)
    (case k__law_size => k_is)
    (case a__law_same => k_is)
    (case l__law_same => k_is)
    (case c__law_same => k_is)
    (case k__law_same => k_is)
    (case a__law_pool => k_is)
    (case l__law_pool => k_is)
    (case c__law_pool => k_is)
    (case k__law_pool => k_is)
    (case a__law_marks => k_is)
    (case l__law_marks => k_is)
    (case c__law_marks => k_is)
    (case k__law_marks => k_is)
    (case a__law_wood => k_is)
    (case l__law_wood => k_is)
    (case c__law_wood => k_is)
    (case k__law_wood => k_is)
    (case a__law_letters => k_is)
    (case l__law_letters => k_is)
    (case c__law_letters => k_is)
    (case k__law_letters => k_is)
    (case a__law_text => k_is)
    (case l__law_text => k_is)
    (case c__law_text => k_is)
    (case k__law_text => k_is)
    (case a_law => k_is)
    (case l_law => k_is)
    (case c_law => k_is)
    (case k_law => k_is)
    (case z_all => k_is)
    (case z_bool => k_is)
    (case z_int => k_is)
    (case z_isinstance => k_is)
    (case z_len => k_is)
    (case z_range => k_is)
    (case z_set => k_is)
    (case z_sorted => k_is)
    (case z_str => k_is)
    (case z_tuple => k_is)
    (case a_ALL_LETTERS => k_is)
    (case a_EMPTY => k_is)
    (case a_FIGURES => k_is)
    (case l_FIGURES => k_is)
    (case a_MOST_PLACES => k_is)
#print axioms PySem.Challenge.cw_trunksay_k09_trees_written_and_read_holds
