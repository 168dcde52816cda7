import PyProof.Rows.All
import Wide.All
import OpenK.AllK
import Wide.FinOn
import Lean
import PyProof.EqAt
import PyProof.EqKinds
import PyProof.TupleCall
import PyProof.StrLawsIn
import PySem.Challenge.RW_trunksay_k15_ways
-- CHANGE: your row's module here, as the last of these rows
set_option Elab.async false
set_option linter.all false
set_option maxRecDepth 100000
namespace L2
open PySem PySem.Spec PyProof.Rows

/-- a key: an int or a str -/
abbrev Key := Sum Int Str
def keyIs : Key → Value → Bool
  | .inl k, v => Value.isInt k v
  | .inr x, v => Value.isStrOf x v
def keyH (w : World) : Key → Int
  | .inl k => hashInt k
  | .inr x => hashStr w x
theorem keyIs_shape : ∀ {k : Key} {v : Value}, keyIs k v = true → (∃ i t, k = Sum.inl i ∧ v = Value.int i t) ∨ (∃ x t, k = Sum.inr x ∧ v = Value.str x t)
  | .inl i, v, h => by
    obtain ⟨t, e⟩ := Value.isInt_shape (k := i) (v := v) h
    exact .inl ⟨i, t, rfl, e⟩
  | .inr x, v, h => by
    obtain ⟨t, e⟩ := Value.isStrOf_shape (x := x) (v := v) h
    exact .inr ⟨x, t, rfl, e⟩
theorem key_ll (a b : Int) : decide ((Sum.inl a : Key) = Sum.inl b) = (a == b) := by
  by_cases e : a = b
  · subst e; simp
  · have h : ¬ (Sum.inl a : Key) = Sum.inl b := fun q => e (Sum.inl.inj q)
    rw [decide_eq_false h]
    exact (beq_eq_false_iff_ne.mpr e).symm
theorem key_rr (a b : Str) : decide ((Sum.inr a : Key) = Sum.inr b) = decide (a = b) := by
  by_cases e : a = b
  · subst e; simp
  · have h : ¬ (Sum.inr a : Key) = Sum.inr b := fun q => e (Sum.inr.inj q)
    rw [decide_eq_false h, decide_eq_false e]
theorem key_lr (a : Int) (b : Str) : decide ((Sum.inl a : Key) = Sum.inr b) = false := decide_eq_false (fun q => nomatch q)
theorem key_rl (a : Str) (b : Int) : decide ((Sum.inr a : Key) = Sum.inl b) = false := decide_eq_false (fun q => nomatch q)

def mixKind (prog : Program) (w : World) : PySem.KeyKind prog w Key where
  is := keyIs
  hash := keyH w
  inj := fun v a b ha hb => by
    rcases keyIs_shape ha with ⟨i, t, rfl, rfl⟩ | ⟨x, t, rfl, rfl⟩
    · rcases keyIs_shape hb with ⟨j, u, rfl, e⟩ | ⟨y, u, rfl, e⟩
      · injection e with e1 _; rw [e1]
      · exact nomatch e
    · rcases keyIs_shape hb with ⟨j, u, rfl, e⟩ | ⟨y, u, rfl, e⟩
      · exact nomatch e
      · injection e with e1 _; rw [e1]
  byValue := fun k v h => by
    rcases keyIs_shape h with ⟨i, t, rfl, rfl⟩ | ⟨x, t, rfl, rfl⟩ <;> rfl
  pyHash := fun hv h => by
    rcases keyIs_shape hv with ⟨i, t, rfl, rfl⟩ | ⟨x, t, rfl, rfl⟩
    · exact wpAny_pyHash_int h
    · exact wpAny_pyHash_str h
  eqBool := fun hu hv h => by
    rcases keyIs_shape hu with ⟨i, t, rfl, rfl⟩ | ⟨x, t, rfl, rfl⟩
    · rcases keyIs_shape hv with ⟨j, u, rfl, rfl⟩ | ⟨y, u, rfl, rfl⟩
      · rw [key_ll] at h; exact wpAny_eqBool_int h
      · rw [key_lr] at h; exact SeqAt.EqAt.int_str i t y u _ _ _ _ h
    · rcases keyIs_shape hv with ⟨j, u, rfl, rfl⟩ | ⟨y, u, rfl, rfl⟩
      · rw [key_rl] at h; exact SeqAt.EqAt.str_int x t j u _ _ _ _ h
      · rw [key_rr] at h; exact wpAny_eqBool_str h
  «strs» := fun k x t v h => by
    rcases keyIs_shape h with ⟨i, u, rfl, e⟩ | ⟨y, u, rfl, e⟩
    · exact nomatch e
    · injection e with e1 _
      subst e1
      cases v <;> rfl

end L2

namespace L2
open PySem PySem.Spec PyProof.Rows

/-- a value, without the heap -/
inductive V where
  | non | bl (b : Bool) | int (i : Int) | str (x : Str) | byt (b : Array UInt8) | flt (b : UInt64) | ref (a : Addr) | ty (n : String)
  deriving DecidableEq

def RelV : V → Value → Prop
  | .non, u => u = Value.none
  | .bl b, u => u = Value.bool b
  | .int i, u => ∃ t, u = Value.int i t
  | .str x, u => ∃ t, u = Value.str x t
  | .byt b, u => ∃ t, u = Value.bytes b t
  | .flt b, u => ∃ t, u = Value.float b t
  | .ref a, u => u = Value.ref a
  | .ty n, u => u = Value.type n

abbrev Vals : List V → List Value → Prop := Paired RelV
theorem Vals.length {xs : List V} {us : List Value} (r : Vals xs us) : xs.length = us.length := Paired.length r
theorem Vals.get : ∀ {xs : List V} {us : List Value} {i : Nat} {x : V}, Vals xs us → xs[i]? = some x → ∃ u, us[i]? = some u ∧ RelV x u
  | _, _, _, _, .nil, e => by simp at e
  | _, _, 0, _, .cons r _, e => by simp at e; subst e; exact ⟨_, rfl, r⟩
  | _, _, i + 1, x, .cons _ t, e => by
    obtain ⟨u, h1, h2⟩ := Vals.get (i := i) (x := x) t (by simpa using e)
    exact ⟨u, by simpa using h1, h2⟩
theorem Vals.set {x : V} {u : Value} (r : RelV x u) : ∀ {xs : List V} {us : List Value} (i : Nat), Vals xs us → Vals (xs.set i x) (us.set i u)
  | _, _, _, .nil => .nil
  | _, _, 0, .cons _ t => .cons r t
  | _, _, i + 1, .cons q t => .cons q (Vals.set r i t)
theorem Vals.append : ∀ {xs ys : List V} {us ws : List Value}, Vals xs us → Vals ys ws → Vals (xs ++ ys) (us ++ ws)
  | _, _, _, _, .nil, s => s
  | _, _, _, _, .cons r t, s => .cons r (Vals.append t s)
theorem Vals.take : ∀ {xs : List V} {us : List Value} (n : Nat), Vals xs us → Vals (xs.take n) (us.take n)
  | _, _, 0, _ => .nil
  | _, _, _ + 1, .nil => .nil
  | _, _, n + 1, .cons r t => .cons r (Vals.take n t)
theorem Vals.drop : ∀ {xs : List V} {us : List Value} (n : Nat), Vals xs us → Vals (xs.drop n) (us.drop n)
  | _, _, 0, r => r
  | _, _, _ + 1, .nil => .nil
  | _, _, n + 1, .cons _ t => Vals.drop n t
def RelO : Option V → Option Value → Prop
  | some v, some u => RelV v u
  | none, none => True
  | _, _ => False
def KV {κ : Type} : List (κ × V) → List (κ × Value) → Prop := Paired fun (p : κ × V) (q : κ × Value) => p.1 = q.1 ∧ RelV p.2 q.2

/-- a key of a dict (00_mix): an int or a text -/
def kV : Key → V
  | .inl i => .int i
  | .inr x => .str x

/-- what stands at a tracked address -/
inductive HO where
  /-- a list -/
  | lst (xs : List V)
  /-- a tuple (never changes) -/
  | tup (xs : List V)
  /-- a dict whose keys are ints and texts; one whose keys are tuples of ints and texts (the empty one is both) -/
  | dK (kvs : List (Key × V)) | dT (kvs : List (List Key × V))
  /-- a set of ints: its members, its size -/
  | set (S : Int → Bool) (n : Nat)
  /-- an instance of the class at C, its dict at dx, its attributes -/
  | ins (C dx : Addr) (fs : List (Str × V))
  /-- the dict of the instance at x -/
  | own (x : Addr)
  /-- the dict of an exception -/
  | xd (fs : List (Str × V))
  /-- a bound method, f of x -/
  | met (f x : Addr)
  /-- a range object lo, lo + 1, .. below hi -/
  | rng (lo hi : Int)
  /-- a thing that is known to the object (the script; a dict while a loop walks it): read, never written while it is so -/
  | frz (o : Obj) (u : HO)
  /-- a code object's table -/
  | tbl (ps : Array Value)
  /-- any other thing, by what is true of its one object (a def of one's own: SetO a S n := HO.ext fun h => ..) -/
  | ext (φ : Heap → Prop)

abbrev Hp := Addr → Option HO
def upd (H : Hp) (a : Addr) (o : HO) : Hp := fun b => if b = a then some o else H b
theorem upd_same {H : Hp} {a : Addr} {o : HO} : upd H a o a = some o := by unfold upd; rw [if_pos rfl]
theorem upd_ne {H : Hp} {a b : Addr} {o : HO} (h : b ≠ a) : upd H a o b = H b := by unfold upd; rw [if_neg h]
theorem upd_upd {H : Hp} {a : Addr} {o u : HO} : upd (upd H a o) a u = upd H a u := by
  funext b; unfold upd; split <;> rfl
theorem ne_of_none {H : Hp} {a b : Addr} {o : HO} (h : H a = some o) (h' : H b = none) : a ≠ b := by
  intro e; subst e; rw [h] at h'; cases h'

section
variable (P : Program) (w : World)
def ObjOk (H : Hp) (h : Heap) (a : Addr) : HO → Prop
  | .lst xs => xs.length ≤ sizeLine ∧ ∃ (its : List Value) (n : Nat), Vals xs its ∧ h.get? a = some { cls := .type "list", data := .seq its.toArray n }
  | .tup xs => xs.length ≤ sizeLine ∧ ∃ its : List Value, Vals xs its ∧ IsTup h a its.toArray
  | .dK kvs => kvs.length ≤ sizeLine ∧ (a == sysModules) = false ∧ ∃ vs, KV kvs vs ∧ h.DictOf (mixKind P w) a vs
  | .dT kvs => kvs.length ≤ sizeLine ∧ (a == sysModules) = false ∧ ∃ xs : List (List Key × Addr × Value),
      Paired (fun (p : List Key × V) (q : List Key × Addr × Value) => p.1 = q.1 ∧ H q.2.1 = some (.tup (p.1.map kV)) ∧ RelV p.2 q.2.2) kvs xs ∧
      ∃ o es ep, h.get? a = some o ∧ o.ExactDict ∧ o.data = .dict es ep ∧ es.toList = xs.map (entryOfKey (tupleKind (mixKind P w))) ∧ (xs.map (·.1)).Nodup
  | .set S n => h.SetOf (intKind P w) a S n
  | .ins C dx fs => H dx = some (.own a) ∧ fs.length ≤ 1000 ∧ dx ≠ a ∧ h.get? a = some (PySem.W.instObj C dx) ∧
      ∃ mA, h.Ns1 dx mA ∧ (∀ f, RelO (fs.lookup f) (mA f)) ∧ PySem.Within mA (fs.map (·.1))
  | .own _ => ∃ o, h.get? a = some o
  | .xd fs => ∃ mA, h.Ns1 a mA ∧ ∀ f, RelO (fs.lookup f) (mA f)
  | .rng lo hi => ∃ t u v, h.get? a = some { cls := .type "range", data := .fields #[.int lo t, .int hi u, .int 1 v] }
  | .frz o u => h.get? a = some o ∧ ObjOk H h a u
  | .tbl ps => h.get? a = some { cls := .none, data := .fields ps }
  | .met f x => h.get? a = some (PySem.W.methodObj (.ref f) (.ref x))
  | .ext φ => φ h ∧ (∃ o, h.get? a = some o) ∧ ∀ h1 h2 : Heap, φ h1 → (∀ o, h1.get? a = some o → h2.get? a = some o) → φ h2
/-- the abstract heap is held -/
def HOk (H : Hp) (h : Heap) : Prop := ∀ a o, H a = some o → ObjOk P w H h a o
end

section
variable {P : Program} {w : World} {H H' : Hp} {h h' : Heap} {a : Addr} {o : HO}
theorem ObjOk.lt (x : ObjOk P w H h a o) : a < h.objs.size := by
  cases o with
  | lst xs => obtain ⟨_, _, _, _, e⟩ := x; exact Heap.lt_size e
  | tup xs => obtain ⟨_, _, _, p⟩ := x; exact p.lt
  | dK kvs => obtain ⟨_, _, _, _, o, _, _, e, _⟩ := x; exact Heap.lt_size e
  | dT kvs => obtain ⟨_, _, _, _, o, _, _, e, _⟩ := x; exact Heap.lt_size e
  | set S n => obtain ⟨o, _, _, _, e, _⟩ := x; exact Heap.lt_size e
  | ins C dx fs => obtain ⟨_, _, _, e, _⟩ := x; exact Heap.lt_size e
  | own y => obtain ⟨_, e⟩ := x; exact Heap.lt_size e
  | xd fs => obtain ⟨_, ⟨_, _, _, e, _⟩, _⟩ := x; exact Heap.lt_size e
  | rng lo hi => obtain ⟨_, _, _, e⟩ := x; exact Heap.lt_size e
  | frz ob u => obtain ⟨e, _⟩ := x; exact Heap.lt_size e
  | tbl ps => exact Heap.lt_size (show h.get? a = some _ from x)
  | met f y => exact Heap.lt_size (show h.get? a = some _ from x)
  | ext φ => obtain ⟨_, ⟨_, e⟩, _⟩ := x; exact Heap.lt_size e
theorem Paired.mapP {α β : Type} {F G : α → β → Prop} : ∀ {l₁ : List α} {l₂ : List β}, Paired F l₁ l₂ → (∀ a b, F a b → G a b) → Paired G l₁ l₂
  | _, _, .nil, _ => .nil
  | _, _, .cons r t, f => .cons (f _ _ r) (Paired.mapP t f)
/-- what an object's description leans on: its own object, its own dict, the tuples -/
theorem ObjOk.stay (x : ObjOk P w H h a o) (k : ∀ b u, (b = a ∨ H b = some (.own a)) → h.get? b = some u → h'.get? b = some u)
    (ho : ∀ b, H b = some (.own a) → H' b = some (.own a)) (ht : ∀ b xs, H b = some (.tup xs) → H' b = some (.tup xs)) : ObjOk P w H' h' a o := by
  induction o with
  | lst xs => obtain ⟨z, its, n, r, e⟩ := x; exact ⟨z, its, n, r, k _ _ (.inl rfl) e⟩
  | tup xs => obtain ⟨z, its, r, ob, e, c⟩ := x; exact ⟨z, its, r, ob, k _ _ (.inl rfl) e, c⟩
  | dK kvs => obtain ⟨z, y, vs, r, ob, es, ep, e, c⟩ := x; exact ⟨z, y, vs, r, ob, es, ep, k _ _ (.inl rfl) e, c⟩
  | dT kvs =>
    obtain ⟨z, y, xs, r, ob, es, ep, e, c⟩ := x
    exact ⟨z, y, xs, Paired.mapP r fun p q z => ⟨z.1, ht _ _ z.2.1, z.2.2⟩, ob, es, ep, k _ _ (.inl rfl) e, c⟩
  | set S n => obtain ⟨ob, es, ep, t, e, c⟩ := x; exact ⟨ob, es, ep, t, k _ _ (.inl rfl) e, c⟩
  | ins C dx fs =>
    obtain ⟨d, z, ne, e, mA, ⟨od, es, ep, e2, c⟩, r⟩ := x
    exact ⟨ho _ d, z, ne, k _ _ (.inl rfl) e, mA, ⟨od, es, ep, k _ _ (.inr d) e2, c⟩, r⟩
  | own y => obtain ⟨ob, e⟩ := x; exact ⟨ob, k _ _ (.inl rfl) e⟩
  | xd fs => obtain ⟨mA, ⟨od, es, ep, e, c⟩, r⟩ := x; exact ⟨mA, ⟨od, es, ep, k _ _ (.inl rfl) e, c⟩, r⟩
  | rng lo hi => obtain ⟨t, u, v, e⟩ := x; exact ⟨t, u, v, k _ _ (.inl rfl) e⟩
  | frz ob u ih => obtain ⟨e, q⟩ := x; exact ⟨k _ _ (.inl rfl) e, ih q⟩
  | tbl ps =>
    have e : h.get? a = some { cls := .none, data := .fields ps } := x
    show h'.get? a = some { cls := .none, data := .fields ps }
    exact k a _ (.inl rfl) e
  | met f y =>
    have e : h.get? a = some (PySem.W.methodObj (.ref f) (.ref y)) := x
    show h'.get? a = some (PySem.W.methodObj (.ref f) (.ref y))
    exact k a _ (.inl rfl) e
  | ext φ => obtain ⟨p, ⟨o, e⟩, st⟩ := x; exact ⟨st _ _ p fun o q => k _ _ (.inl rfl) q, ⟨o, k _ _ (.inl rfl) e⟩, st⟩
theorem HOk.lt (x : HOk P w H h) (e : H a = some o) : a < h.objs.size := (x a o e).lt
theorem HOk.fresh (x : HOk P w H h) (e : h.objs.size ≤ a) : H a = none := by
  cases q : H a with
  | none => rfl
  | some u => exact absurd (Nat.lt_of_lt_of_le (x.lt q) e) (Nat.lt_irrefl _)
/-- every object of the heap is kept -/
theorem HOk.kept (x : HOk P w H h) (k : ∀ b u, h.get? b = some u → h'.get? b = some u) : HOk P w H h' := fun a o e =>
  (x a o e).stay (fun b u _ q => k b u q) (fun _ q => q) fun _ _ q => q
/-- a new object is laid and tracked -/
theorem HOk.laid (x : HOk P w H h) (k : ∀ b u, h.get? b = some u → h'.get? b = some u) (hp : h.objs.size ≤ a) (new : ObjOk P w (upd H a o) h' a o) : HOk P w (upd H a o) h' := fun b u e => by
  have hn := x.fresh hp
  by_cases hb : b = a
  · subst hb; rw [upd_same] at e; cases e; exact new
  · rw [upd_ne hb] at e
    exact (x b u e).stay (fun c v _ q => k c v q) (fun c q => by rw [upd_ne (ne_of_none q hn)]; exact q) fun c xs q => by rw [upd_ne (ne_of_none q hn)]; exact q
end

/-- what may be read as u: it is u, or a known u -/
def Rd (H : Hp) (a : Addr) (u : HO) : Prop := H a = some u ∨ ∃ o, H a = some (.frz o u)
theorem Rd.of {H : Hp} {a : Addr} {u : HO} (h : H a = some u) : Rd H a u := .inl h
theorem Rd.ok {P : Program} {w : World} {H : Hp} {h : Heap} {a : Addr} {u : HO} (r : Rd H a u) (x : HOk P w H h) : ObjOk P w H h a u := by
  rcases r with r | ⟨o, r⟩
  · exact x a u r
  · obtain ⟨_, q⟩ := x a _ r
    exact q
/-- what may be written -/
def Mut : Option HO → Prop
  | some (.lst _) => True
  | some (.dK _) => True
  | some (.dT _) => True
  | some (.set _ _) => True
  | some (.ins _ _ _) => True
  | some (.ext _) => True
  | _ => False
section
variable {P : Program} {w : World} {H : Hp} {h h' : Heap} {x e : Addr} {o' : HO}
/-- the object at e is changed: x itself, or the dict of the instance x -/
theorem HOk.write (ok : HOk P w H h) (mu : Mut (H x)) (he : e = x ∨ H e = some (.own x)) (k : ∀ b u, b ≠ e → h.get? b = some u → h'.get? b = some u) (heo : ∃ u, h'.get? e = some u)
    (new : ObjOk P w (upd H x o') h' x o') : HOk P w (upd H x o') h' := fun b u q => by
  have nown : ∀ c y, H c = some (.own y) → c ≠ x := fun c y r z => by subst z; rw [r] at mu; exact mu
  have ntup : ∀ c xs, H c = some (.tup xs) → c ≠ x := fun c xs r z => by subst z; rw [r] at mu; exact mu
  by_cases hb : b = x
  · subst hb; rw [upd_same] at q; cases q; exact new
  · rw [upd_ne hb] at q
    by_cases hbe : b = e
    · have q' : H b = some (.own x) := by
        rcases he with z | z
        · exact absurd (hbe.trans z) hb
        · rw [hbe]; exact z
      rw [q] at q'; cases q'
      obtain ⟨v, hv⟩ := heo
      exact ⟨v, by rw [hbe]; exact hv⟩
    · refine (ok b u q).stay (fun c v hc r => k c v ?_ r) (fun c r => by rw [upd_ne (nown c b r)]; exact r) fun c xs r => by rw [upd_ne (ntup c xs r)]; exact r
      rcases hc with rfl | hc
      · exact hbe
      · rintro rfl
        rcases he with z | z
        · exact nown c b hc z
        · rw [hc] at z; cases z; exact hb rfl
end

structure Un (fs ex : List Addr) (H H' : Hp) (h h' : Heap) : Prop where
  keep : ∀ b o, h.get? b = some o → H b = none → b ∉ fs → b ∉ ex → h'.get? b = some o
  slot : ∀ b o, h.get? b = some o → H b = none → b ∈ fs → b ∉ ex → ∃ sl, h'.get? b = some { o with slots := sl }
  free : ∀ b o, h.get? b = some o → H b = none → b ∉ ex → H' b = none
  there : ∀ b o, h.get? b = some o → b ∉ ex → ∃ o', h'.get? b = some o'
  tups : ∀ b xs, H b = some (.tup xs) → H' b = some (.tup xs)
  frzs : ∀ b o u, H b = some (.frz o u) → H' b = some (.frz o u)
  tbls : ∀ b ps, H b = some (.tbl ps) → ∃ more, H' b = some (.tbl (ps ++ more))
section
variable {fs fs' ex ex' : List Addr} {H H1 H2 : Hp} {h h1 h2 h' : Heap} {a x e : Addr} {o : HO}
theorem Un.any (u : Un fs ex H H1 h h1) {b : Addr} {ob : Obj} (q : h.get? b = some ob) (n : H b = none) (hx : b ∉ ex) : ∃ sl, h1.get? b = some { ob with slots := sl } := by
  by_cases hb : b ∈ fs
  · exact u.slot b ob q n hb hx
  · exact ⟨ob.slots, u.keep b ob q n hb hx⟩
theorem Un.trans (a : Un fs ex H H1 h h1) (b : Un fs ex H1 H2 h1 h2) : Un fs ex H H2 h h2 where
  keep := fun c ob q n hc hx => b.keep c ob (a.keep c ob q n hc hx) (a.free c ob q n hx) hc hx
  slot := fun c ob q n hc hx => by
    obtain ⟨sl, e1⟩ := a.slot c ob q n hc hx
    obtain ⟨sl', e2⟩ := b.slot c _ e1 (a.free c ob q n hx) hc hx
    exact ⟨sl', e2⟩
  free := fun c ob q n hx => by
    obtain ⟨o', e1⟩ := a.there c ob q hx
    exact b.free c o' e1 (a.free c ob q n hx) hx
  there := fun c ob q hx => by
    obtain ⟨o', e1⟩ := a.there c ob q hx
    exact b.there c o' e1 hx
  tups := fun c xs q => b.tups c xs (a.tups c xs q)
  frzs := fun c ob xs q => b.frzs c ob xs (a.frzs c ob xs q)
  tbls := fun c ps q => by
    obtain ⟨m1, e1⟩ := a.tbls c ps q
    obtain ⟨m2, e2⟩ := b.tbls c _ e1
    exact ⟨m1 ++ m2, by rw [e2, Array.append_assoc]⟩
theorem Un.kept (k : ∀ b u, h.get? b = some u → h'.get? b = some u) : Un fs ex H H h h' :=
  ⟨fun b ob q _ _ _ => k b ob q, fun b ob q _ _ _ => ⟨ob.slots, k b ob q⟩, fun _ _ _ n _ => n, fun b ob q _ => ⟨ob, k b ob q⟩, fun _ _ q => q, fun _ _ _ q => q, fun _ ps q => ⟨#[], by rw [q]; simp⟩⟩
theorem Un.refl : Un fs ex H H h h := Un.kept fun _ _ q => q
theorem Un.laid (k : ∀ b u, h.get? b = some u → h'.get? b = some u) (hp : h.objs.size ≤ a) (hn : H a = none) : Un fs ex H (upd H a o) h h' where
  keep := fun b u q _ _ _ => k b u q
  slot := fun b u q _ _ _ => ⟨u.slots, k b u q⟩
  free := fun b u q n _ => by rw [upd_ne (Nat.ne_of_lt (Nat.lt_of_lt_of_le (Heap.lt_size q) hp))]; exact n
  there := fun b u q _ => ⟨u, k b u q⟩
  tups := fun b xs q => by rw [upd_ne (ne_of_none q hn)]; exact q
  frzs := fun b u xs q => by rw [upd_ne (ne_of_none q hn)]; exact q
  tbls := fun b ps q => ⟨#[], by rw [upd_ne (ne_of_none q hn), q]; simp⟩
theorem Un.write (mu : Mut (H x)) (he : e = x ∨ H e = some (.own x)) (k : ∀ b u, b ≠ e → h.get? b = some u → h'.get? b = some u) (heo : ∃ u, h'.get? e = some u) : Un fs ex H (upd H x o) h h' := by
  have hx : ∀ b, H b = none → b ≠ x := fun b n z => by subst z; rw [n] at mu; exact mu
  have hb : ∀ b, H b = none → b ≠ e := fun b n z => by
    subst z
    rcases he with r | r
    · exact hx b n r
    · rw [n] at r; cases r
  have hm : ∀ b u, H b = some u → ¬ Mut (some u) → b ≠ x := fun b u q nm z => by subst z; rw [q] at mu; exact nm mu
  refine ⟨fun b u q n _ _ => k b u (hb b n) q, fun b u q n _ _ => ⟨u.slots, k b u (hb b n) q⟩, fun b u q n _ => by rw [upd_ne (hx b n)]; exact n, fun b u q _ => ?_,
    fun b xs q => by rw [upd_ne (hm b _ q fun z => z)]; exact q, fun b u xs q => by rw [upd_ne (hm b _ q fun z => z)]; exact q, fun b ps q => ⟨#[], by rw [upd_ne (hm b _ q fun z => z), q]; simp⟩⟩
  by_cases hbe : b = e
  · subst hbe; exact heo
  · exact ⟨u, k b u hbe q⟩
theorem Un.mono (u : Un fs ex H H1 h h1) (hs : ∀ b ∈ fs, b ∈ fs') (hx : ∀ b ∈ ex, b ∈ ex') : Un fs' ex' H H1 h h1 :=
  ⟨fun b ob q n hb he => u.keep b ob q n (fun z => hb (hs b z)) fun z => he (hx b z), fun _ _ q n _ he => u.any q n fun z => he (hx _ z), fun b ob q n he => u.free b ob q n fun z => he (hx b z), fun b ob q he => u.there b ob q fun z => he (hx b z), u.tups, u.frzs, u.tbls⟩
end

def trk (h : Heap) (H : Hp) : List Addr := (List.range h.objs.size).filter fun a => (H a).isSome
def hidT (h : Heap) (H : Hp) : Heap := PySem.W.hideAll h (trk h H)
theorem hidT_size (h : Heap) (H : Hp) : (hidT h H).objs.size = h.objs.size := PySem.W.hideAll_size _ _
theorem hidT_get {h : Heap} {H : Hp} {b : Addr} {o : Obj} (e : h.get? b = some o) (n : H b = none) : (hidT h H).get? b = some o :=
  PySem.W.hideAll_get _ e fun hm => by
    have q : (H b).isSome = true := (List.mem_filter.mp hm).2
    rw [n] at q; simp at q
theorem of_hidT {h : Heap} {H : Hp} {b : Addr} {o : Obj} (e : (hidT h H).get? b = some o) : h.get? b = some o ∧ H b = none := by
  have e' : h.get? b = some o := PySem.W.of_hideAll (trk h H) e
  refine ⟨e', ?_⟩
  cases q : H b with
  | none => rfl
  | some x =>
    have hm : b ∈ trk h H := List.mem_filter.mpr ⟨List.mem_range.mpr (Heap.lt_size e'), by simp [q]⟩
    have z : (hidT h H).get? b = none := PySem.W.hideAll_none (trk h H) hm
    rw [z] at e; cases e

def allNews (g h : Heap) (L : Addr) : List (Addr × Obj) := (List.range h.objs.size).filterMap fun a => if a = L ∨ (g.get? a).isSome = true then none else (h.get? a).map fun o => (a, o)
def rest (g h : Heap) (L d : Addr) : List (Addr × Obj) := (allNews g h L).filter fun p => decide (p.1 ≠ d)
end L2

namespace L2
open PySem PySem.Spec PyProof.Rows

/-- the module's facts, over the base: the heap at the law's entry without what is tracked there -/
structure Mod (K : PySem.W.Frag) (mg : Str → Option Value) (base : Heap) : Prop where
  kin : K.In base
  glob : base.Ns mainGlobals mg
  blt : ∃ mb, base.Ns builtinsNs mb ∧ ∀ x : Str, x ≠ "__name__" → mb x = bootBuiltins x
  nolimit : base.NoLimit

/-- the context: a def's body (or a comprehension's block) running. base: fixed through the whole law; s₀, H₀: the entry; outer: the frames whose slots others may change (a def's callers); stack: all frames that run;
   ex: iterators that were made ahead of the entry and are walked here (a comprehension's); fn: the names whose cells were made at the entry (a def: all; a comprehension's block: its own); calm: not within an except suite; pn: pins that every state bears; xe: what is wanted of an exception that leaves the code -/
structure Cx where
  prog : Program
  w : World
  K : PySem.W.Frag
  mg : Str → Option Value
  base : Heap
  A : Around
  N : List Str
  s₀ : Shared
  H₀ : Hp
  env : Env
  outer : List Env
  stack : List Env
  ex : List Addr
  fn : Str → Bool
  calm : Bool
  pn : List (Addr × Obj)
  xe : Value → Shared → Prop
/-- the callers' frames -/
def frs (l : List Env) : List Addr := l.filterMap (·.frame)
abbrev Cx.fs (X : Cx) : List Addr := frs X.outer

def Vis (sc : Scope) (x : Str) : Prop := sc.names.lookup x = some .local ∨ sc.names.lookup x = some .cell ∨ sc.names.lookup x = some .free
def Loc (sc : Scope) (x : Str) : Prop := sc.names.lookup x = some .local ∨ sc.names.lookup x = some .cell
def Look (env : Env) (h : Heap) (m : Str → Option Value) (x : Str) (u : Value) : Prop :=
  (env.kindOf x = some .local ∧ m x = some u) ∨ ((env.kindOf x = some .cell ∨ env.kindOf x = some .free) ∧ ∃ c, env.cells.lookup x = some c ∧ h.IsCell c (some u))

structure Cx.Ok (X : Cx) : Prop where
  mod : Mod X.K X.mg X.base
  kind : X.env.scope.kind = .function
  glob : X.env.globals = mainGlobals
  blt : X.env.builtins = builtinsNs
  above : X.s₀.heap.objs.size ≤ X.env.locals
  inj : ∀ x y c, X.env.cells.lookup x = some c → X.env.cells.lookup y = some c → x = y
  has : ∀ x, (X.env.kindOf x = some .cell ∨ X.env.kindOf x = some .free) → ∃ c, X.env.cells.lookup x = some c
  cab : ∀ x c, X.fn x = true → X.env.cells.lookup x = some c → X.s₀.heap.objs.size ≤ c
  hd : X.calm = true → X.A.handled = none
  frames : X.A.frames = some X.stack
  stk : X.stack = X.outer ∨ (X.stack = X.env :: X.outer ∧ X.env.frame = some X.env.locals)
  exf : ∀ b ∈ X.ex, b ≠ X.env.locals ∧ ∀ x c, X.env.cells.lookup x = some c → c ≠ b
  bs : ∀ b o, X.base.get? b = some o → X.s₀.heap.get? b = some o ∧ X.H₀ b = none
  bsz : X.base.objs.size ≤ X.s₀.heap.objs.size
  noex : ∀ b o, X.base.get? b = some o → b ∉ X.ex
  exfs : ∀ b ∈ X.ex, b ∉ X.fs
  funs : X.s₀.heap.FunFrames X.base X.outer
  frf : ∀ b ∈ X.fs, X.H₀ b = none

structure Inv (X : Cx) (pins : List (Addr × Obj)) (σ : List (Option V)) (H : Hp) (s : Shared) : Prop where
  ok : X.Ok
  os : s.os = X.s₀.os
  bare : AllBare s.gens
  base : Un X.fs X.ex X.H₀ H X.s₀.heap s.heap
  loc : ∃ m, s.heap.Ns X.env.locals m ∧ ∀ (i : Nat) (x : Str) (v : V), X.N[i]? = some x → σ[i]? = some (some v) → Vis X.env.scope x → ∃ u, RelV v u ∧ Look X.env s.heap m x u
  cell : ∀ x c, X.env.cells.lookup x = some c → ∃ v, s.heap.IsCell c v
  free : H X.env.locals = none
  freeC : ∀ x c, X.env.cells.lookup x = some c → H c = none
  pin : ∀ p ∈ X.pn ++ pins, s.heap.get? p.1 = some p.2 ∧ H p.1 = none ∧ p.1 ≠ X.env.locals ∧ p.1 ∉ X.fs ∧ ∀ v, p.2.data ≠ .cell v
  hok : HOk X.prog X.w H s.heap
  len : σ.length = X.N.length

section
variable {X : Cx} {pins : List (Addr × Obj)} {σ : List (Option V)} {H H' : Hp} {s : Shared} {h' : Heap}

theorem Cx.Ok.nofr (ok : X.Ok) {b : Addr} {o : Obj} (e : X.base.get? b = some o) : b ∉ X.fs := fun hb => by
  have := (ok.funs.mem hb).1
  rw [e] at this; cases this
theorem Inv.bs (I : Inv X pins σ H s) : ∀ b o, X.base.get? b = some o → s.heap.get? b = some o ∧ H b = none := fun b o e =>
  ⟨I.base.keep b o (I.ok.bs b o e).1 (I.ok.bs b o e).2 (I.ok.nofr e) (I.ok.noex b o e), I.base.free b o (I.ok.bs b o e).1 (I.ok.bs b o e).2 (I.ok.noex b o e)⟩
theorem Inv.bk (I : Inv X pins σ H s) : ∀ b o, X.base.get? b = some o → s.heap.get? b = some o := fun b o e => (I.bs b o e).1
theorem Inv.mod (I : Inv X pins σ H s) : Mod X.K X.mg X.base := I.ok.mod
theorem Inv.kIn (I : Inv X pins σ H s) : X.K.In s.heap := I.ok.mod.kin.keeps I.bk
theorem Inv.nolimit (I : Inv X pins σ H s) : s.heap.NoLimit := I.ok.mod.nolimit.keeps I.bk
theorem Inv.lt (I : Inv X pins σ H s) : X.env.locals < s.heap.objs.size := let ⟨_, hn, _⟩ := I.loc; hn.lt
theorem Inv.sz (I : Inv X pins σ H s) : X.s₀.heap.objs.size ≤ s.heap.objs.size := Nat.le_trans I.ok.above (Nat.le_of_lt I.lt)
theorem Inv.nofs (I : Inv X pins σ H s) {a : Addr} (h : s.heap.objs.size ≤ a) : a ∉ X.fs := fun hb => by
  obtain ⟨_, o, ho, _⟩ := I.ok.funs.mem hb
  exact absurd (Nat.lt_of_lt_of_le (Heap.lt_size ho) (Nat.le_trans I.sz h)) (Nat.lt_irrefl _)
theorem Inv.cne (I : Inv X pins σ H s) : ∀ x c, X.env.cells.lookup x = some c → c ≠ X.env.locals := fun x c e z => by
  obtain ⟨v, o, ho, hd⟩ := I.cell x c e
  obtain ⟨m, ⟨o', es, ep, ho', hd', _⟩, _⟩ := I.loc
  rw [z, ho'] at ho; cases ho; rw [hd'] at hd; cases hd
theorem Inv.funs (I : Inv X pins σ H s) : s.heap.FunFrames X.base X.outer := by
  have all : ∀ (l : List Env), (∀ b ∈ frs l, b ∈ X.fs) → X.s₀.heap.FunFrames X.base l → s.heap.FunFrames X.base l := by
    intro l
    induction l with
    | nil => intro _ _; trivial
    | cons env r ih =>
      intro hs hl
      obtain ⟨hk, ⟨L, o, hf, hn, ho, hd⟩, hr⟩ := hl
      have hL : L ∈ X.fs := hs L (by unfold frs; rw [List.filterMap_cons, hf]; exact List.mem_cons_self)
      obtain ⟨sl, e⟩ := I.base.slot L o ho (I.ok.frf L hL) hL fun z => I.ok.exfs L z hL
      exact ⟨hk, ⟨L, _, hf, hn, e, hd⟩, ih (fun b hb => hs b (by unfold frs; rw [List.filterMap_cons, hf]; exact List.mem_cons_of_mem _ hb)) hr⟩
  exact all X.outer (fun _ hb => hb) I.ok.funs

/-- the frames that run, for a call -/
theorem Inv.stack (I : Inv X pins σ H s) : s.heap.FunFrames X.base X.stack := by
  rcases I.ok.stk with e | ⟨e, hf⟩
  · rw [e]; exact I.funs
  · rw [e]
    obtain ⟨m, hn, _⟩ := I.loc
    refine .cons (by rw [I.ok.kind]; decide) hf hn ?_ I.funs
    exact Heap.get?_none_of_le (Nat.le_trans I.ok.bsz I.ok.above)
theorem Inv.stkSub (I : Inv X pins σ H s) : ∀ b ∈ frs X.stack, b ∈ X.env.locals :: X.fs := fun b hb => by
  rcases I.ok.stk with e | ⟨e, hf⟩
  · rw [e] at hb; exact List.mem_cons_of_mem _ hb
  · rw [e] at hb
    unfold frs at hb
    rw [List.filterMap_cons, hf] at hb
    exact hb
theorem Inv.stkFree (I : Inv X pins σ H s) : ∀ b ∈ frs X.stack, H b = none := fun b hb => by
  rcases List.mem_cons.mp (I.stkSub b hb) with e | hb
  · rw [e]; exact I.free
  · obtain ⟨_, o, ho, _⟩ := I.ok.funs.mem hb
    exact I.base.free b o ho (I.ok.frf b hb) fun z => I.ok.exfs b z hb

/-- THE STEP: the untracked objects but the frame and the records at ch are kept (the callers' frames up to slots), the frame's map is kept, the new abstract heap is held -/
theorem Inv.step {g' : Array GenState} {t' : Nat} {d' : Drawn} {ch : List Addr} (I : Inv X pins σ H s)
    (hch : ∀ b ∈ ch, (b ∈ X.ex ∨ X.s₀.heap.objs.size ≤ b) ∧ b ≠ X.env.locals ∧ (∀ x c, X.env.cells.lookup x = some c → c ≠ b) ∧ ∀ p ∈ X.pn ++ pins, p.1 ≠ b)
    (keep : ∀ b o, b ≠ X.env.locals → b ∉ X.fs → b ∉ ch → s.heap.get? b = some o → H b = none → h'.get? b = some o)
    (slot : ∀ b o, b ≠ X.env.locals → b ∈ X.fs → b ∉ ch → s.heap.get? b = some o → H b = none → ∃ sl, h'.get? b = some { o with slots := sl }) (free : ∀ b o, b ∉ ch → s.heap.get? b = some o → H b = none → H' b = none)
    (there : ∀ b o, b ∉ ch → s.heap.get? b = some o → ∃ o', h'.get? b = some o')
    (tups : ∀ b xs, H b = some (.tup xs) → H' b = some (.tup xs)) (frzs : ∀ b o u, H b = some (.frz o u) → H' b = some (.frz o u)) (tbls : ∀ b ps, H b = some (.tbl ps) → ∃ more, H' b = some (.tbl (ps ++ more)))
    (ns : ∀ m, s.heap.Ns X.env.locals m → h'.Ns X.env.locals m) (hok : HOk X.prog X.w H' h') (hg : AllBare g') :
    Inv X pins σ H' { s with heap := h', gens := g', drawn := d', toks := t' } := by
  have neL : ∀ b o, X.s₀.heap.get? b = some o → b ≠ X.env.locals := fun b o e => Nat.ne_of_lt (Nat.lt_of_lt_of_le (Heap.lt_size e) I.ok.above)
  have neC : ∀ b o, X.s₀.heap.get? b = some o → b ∉ X.ex → b ∉ ch := fun b o e hx hb => by
    rcases (hch b hb).1 with z | z
    · exact hx z
    · exact absurd (Nat.lt_of_lt_of_le (Heap.lt_size e) z) (Nat.lt_irrefl _)
  have cellK : ∀ x c, X.env.cells.lookup x = some c → ∀ v, s.heap.IsCell c v → h'.IsCell c v := fun x c e v ⟨o, ho, hd⟩ => by
    have nch : c ∉ ch := fun z => (hch c z).2.2.1 x c e rfl
    by_cases hc : c ∈ X.fs
    · obtain ⟨sl, q⟩ := slot c o (I.cne x c e) hc nch ho (I.freeC x c e)
      exact ⟨_, q, hd⟩
    · exact ⟨o, keep c o (I.cne x c e) hc nch ho (I.freeC x c e), hd⟩
  refine ⟨I.ok, I.os, hg, ⟨fun b o e n hb hx => ?_, fun b o e n hb hx => ?_, fun b o e n hx => ?_, fun b o e hx => ?_, fun b xs e => tups b xs (I.base.tups b xs e), fun b o xs e => frzs b o xs (I.base.frzs b o xs e), fun b ps e => ?_⟩, ?_, fun x c e => ?_, ?_, fun x c e => ?_, fun p hp => ?_, hok, I.len⟩
  · exact keep b o (neL b o e) hb (neC b o e hx) (I.base.keep b o e n hb hx) (I.base.free b o e n hx)
  · obtain ⟨sl, e1⟩ := I.base.slot b o e n hb hx
    obtain ⟨sl', e2⟩ := slot b _ (neL b o e) hb (neC b o e hx) e1 (I.base.free b o e n hx)
    exact ⟨sl', e2⟩
  · obtain ⟨o', e1⟩ := I.base.there b o e hx
    exact free b o' (neC b o e hx) e1 (I.base.free b o e n hx)
  · obtain ⟨o', e1⟩ := I.base.there b o e hx
    exact there b o' (neC b o e hx) e1
  · obtain ⟨m1, e1⟩ := I.base.tbls b ps e
    obtain ⟨m2, e2⟩ := tbls b _ e1
    exact ⟨m1 ++ m2, by rw [e2, Array.append_assoc]⟩
  · obtain ⟨m, hn, hl⟩ := I.loc
    refine ⟨m, ns m hn, fun i x v e1 e2 e3 => ?_⟩
    obtain ⟨u, r, l⟩ := hl i x v e1 e2 e3
    refine ⟨u, r, ?_⟩
    rcases l with l | ⟨k, c, e, z⟩
    · exact .inl l
    · exact .inr ⟨k, c, e, cellK x c e _ z⟩
  · obtain ⟨v, z⟩ := I.cell x c e
    exact ⟨v, cellK x c e v z⟩
  · obtain ⟨m, ⟨o, _, _, ho, _⟩, _⟩ := I.loc
    exact free _ o (fun z => (hch _ z).2.1 rfl) ho I.free
  · obtain ⟨v, o, ho, hd⟩ := I.cell x c e
    exact free c o (fun z => (hch c z).2.2.1 x c e rfl) ho (I.freeC x c e)
  · obtain ⟨e, n, ne, nf, d⟩ := I.pin p hp
    have nch : p.1 ∉ ch := fun z => (hch p.1 z).2.2.2 p hp rfl
    exact ⟨keep p.1 p.2 ne nf nch e n, free p.1 p.2 nch e n, ne, nf, d⟩
/-- .. where the frame's own object is kept too -/
theorem Inv.un {t' : Nat} (I : Inv X pins σ H s) (u : Un X.fs [] H H' s.heap h') (hok : HOk X.prog X.w H' h') : Inv X pins σ H' { s with heap := h', toks := t' } := by
  obtain ⟨m, ⟨o, es, ep, ho, r⟩, _⟩ := id I.loc
  obtain ⟨sl, hL⟩ := u.any ho I.free (by simp)
  exact I.step (g' := s.gens) (d' := s.drawn) (ch := []) (fun _ z => nomatch z) (fun b o _ hb _ e n => u.keep b o e n hb (by simp)) (fun b o _ hb _ e n => u.slot b o e n hb (by simp)) (fun b o _ e n => u.free b o e n (by simp)) (fun b o _ e => u.there b o e (by simp)) u.tups u.frzs u.tbls (fun m' hm => by
    obtain ⟨o', es', ep', ho', r'⟩ := hm
    rw [ho] at ho'; cases ho'
    exact ⟨_, es', ep', hL, r'⟩) hok I.bare
/-- behind a call (or a comprehension's block): the slots of this frame may have changed too, the records at ch may have turned -/
theorem Inv.call {g' : Array GenState} {t' : Nat} {d' : Drawn} {ch : List Addr} (I : Inv X pins σ H s) (u : Un (frs X.stack) ch H H' s.heap h') (hok : HOk X.prog X.w H' h') (hg : AllBare g')
    (hch : ∀ b ∈ ch, (b ∈ X.ex ∨ X.s₀.heap.objs.size ≤ b) ∧ b ≠ X.env.locals ∧ (∀ x c, X.env.cells.lookup x = some c → c ≠ b) ∧ ∀ p ∈ X.pn ++ pins, p.1 ≠ b) :
    Inv X pins σ H' { s with heap := h', gens := g', drawn := d', toks := t' } := by
  obtain ⟨m, ⟨o, es, ep, ho, r⟩, _⟩ := id I.loc
  obtain ⟨sl, hL⟩ := u.any ho I.free fun z => (hch _ z).2.1 rfl
  exact I.step (ch := ch) hch (fun b o hL hb hc e n => u.keep b o e n (fun z => (List.mem_cons.mp (I.stkSub b z)).elim hL hb) hc) (fun b o _ _ hc e n => u.any e n hc) (fun b o hc e n => u.free b o e n hc) (fun b o hc e => u.there b o e hc) u.tups u.frzs u.tbls (fun m' hm => by
    obtain ⟨o', es', ep', ho', r'⟩ := hm
    rw [ho] at ho'; cases ho'
    exact ⟨_, es', ep', hL, r'⟩) hok hg
/-- an untracked record of ours (an iterator) has turned -/
theorem Inv.turned {t' : Nat} {it : Addr} (I : Inv X pins σ H s) (k : ∀ b o, b ≠ it → s.heap.get? b = some o → h'.get? b = some o) (hn : H it = none) (hL : it ≠ X.env.locals)
    (h1 : it ∈ X.ex ∨ X.s₀.heap.objs.size ≤ it) (h2 : ∀ x c, X.env.cells.lookup x = some c → c ≠ it) (h3 : ∀ p ∈ X.pn ++ pins, p.1 ≠ it) : Inv X pins σ H { s with heap := h', toks := t' } := by
  have nit : ∀ b u, H b = some u → b ≠ it := fun b u e z => by rw [z, hn] at e; cases e
  refine I.step (g' := s.gens) (d' := s.drawn) (ch := [it]) (fun b hb => ?_) (fun b o _ _ hc e _ => k b o (fun z => hc (by simp [z])) e) (fun b o _ _ hc e _ => ⟨o.slots, k b o (fun z => hc (by simp [z])) e⟩) (fun _ _ _ _ n => n)
    (fun b o hc e => ⟨o, k b o (fun z => hc (by simp [z])) e⟩) (fun _ _ e => e) (fun _ _ _ e => e) (fun b ps e => ⟨#[], by rw [e]; simp⟩) (fun m hm => ?_) (fun b u e => ?_) I.bare
  · have e : b = it := by simpa using hb
    subst e
    exact ⟨h1, hL, h2, h3⟩
  · obtain ⟨o, es, ep, ho, r⟩ := hm
    exact ⟨o, es, ep, k _ o (Ne.symm hL) ho, r⟩
  · refine (I.hok b u e).stay (fun c v hc q => k c v ?_ q) (fun _ q => q) fun _ _ q => q
    rcases hc with z | z
    · rw [z]; exact nit b u e
    · exact nit c _ z
theorem Inv.tok (I : Inv X pins σ H s) (t : Nat) : Inv X pins σ H { s with toks := t } := I.un (h' := s.heap) (t' := t) Un.refl I.hok
/-- all objects kept -/
theorem Inv.kept {t' : Nat} (I : Inv X pins σ H s) (k : ∀ b u, s.heap.get? b = some u → h'.get? b = some u) : Inv X pins σ H { s with heap := h', toks := t' } := I.un (Un.kept k) (I.hok.kept k)
/-- a new object laid and tracked -/
theorem Inv.laid {a : Addr} {o : HO} {t' : Nat} (I : Inv X pins σ H s) (k : ∀ b u, s.heap.get? b = some u → h'.get? b = some u) (hp : s.heap.objs.size ≤ a) (new : ObjOk X.prog X.w (upd H a o) h' a o) :
    Inv X pins σ (upd H a o) { s with heap := h', toks := t' } := I.un (Un.laid k hp (I.hok.fresh hp)) (I.hok.laid k hp new)
/-- an object written -/
theorem Inv.write {x e : Addr} {o : HO} {t' : Nat} (I : Inv X pins σ H s) (mu : Mut (H x)) (he : e = x ∨ H e = some (.own x)) (k : ∀ b u, b ≠ e → s.heap.get? b = some u → h'.get? b = some u) (heo : ∃ u, h'.get? e = some u)
    (new : ObjOk X.prog X.w (upd H x o) h' x o) : Inv X pins σ (upd H x o) { s with heap := h', toks := t' } := I.un (Un.write mu he k heo) (I.hok.write mu he k heo new)
theorem Inv.pins_of {pins' : List (Addr × Obj)} (I : Inv X pins σ H s) (h : ∀ p ∈ pins', s.heap.get? p.1 = some p.2 ∧ H p.1 = none ∧ p.1 ≠ X.env.locals ∧ p.1 ∉ X.fs ∧ ∀ v, p.2.data ≠ .cell v) : Inv X pins' σ H s :=
  ⟨I.ok, I.os, I.bare, I.base, I.loc, I.cell, I.free, I.freeC, fun p hp => (List.mem_append.mp hp).elim (fun z => I.pin p (List.mem_append_left _ z)) (h p), I.hok, I.len⟩

theorem nodup_ix {N : List Str} (hN : N.Nodup) {i j : Nat} {x : Str} (a : N[i]? = some x) (b : N[j]? = some x) : i = j := by
  obtain ⟨h1, e1⟩ := List.getElem?_eq_some_iff.mp a
  obtain ⟨h2, e2⟩ := List.getElem?_eq_some_iff.mp b
  exact (List.getElem_inj hN).mp (e1.trans e2.symm)

/-- a name is stored; what changed -/
theorem store_ok2 {M : Model} {A : Around} {E : Value → Shared → Prop} {i : Nat} {x : Str} {v : V} {u : Value} {Q : Unit → Shared → Prop} (I : Inv X pins σ H s) (hN : X.N.Nodup) (hi : X.N[i]? = some x) (hx : Loc X.env.scope x) (r : RelV v u)
    (h : ∀ s', Inv X pins (σ.set i (some v)) H s' → (∃ a, Heap.SameBut a s.heap s'.heap ∧ (a = X.env.locals ∨ X.env.cells.lookup x = some a)) → Q () s') (hf : X.fn x = true ∨ X.env.scope.names.lookup x = some .local := by first | exact .inl rfl | exact .inr rfl | assumption) : wpAny M A (storeName X.env x u) Q E s := by
  obtain ⟨m, hn, hl⟩ := id I.loc
  have hcls : (X.env.scope.kind == .class || (X.env.scope.kind == .module && X.env.locals != X.env.globals)) = false := by rw [I.ok.kind]; rfl
  have hiσ : i < σ.length := by rw [I.len]; exact (List.getElem?_eq_some_iff.mp hi).1
  have cne := I.cne
  have tracked : ∀ {a : Addr} {h' : Heap}, (∃ o, s.heap.get? a = some o ∧ H a = none) → Heap.SameBut a s.heap h' → HOk X.prog X.w H h' := fun {a h'} ha hs b ob e => by
    obtain ⟨_, _, hfree⟩ := ha
    refine (I.hok b ob e).stay (fun c w' hc q => (hs.2 c ?_).trans q) (fun _ q => q) fun _ _ q => q
    rintro rfl
    rcases hc with rfl | hc
    · rw [hfree] at e; cases e
    · rw [hfree] at hc; cases hc
  rcases hx with hk | hk
  · refine wpAny_storeName_local hk hn (fun h' hn' hs => ?_) hcls
    obtain ⟨oL, _, _, hoL, _⟩ := id hn
    refine h _ ⟨I.ok, I.os, I.bare, ⟨fun b o e n hb hx => ?_, fun b o e n hb hx => ?_, I.base.free, fun b o e hx => ?_, I.base.tups, I.base.frzs, I.base.tbls⟩, ⟨_, hn', fun j y v' e1 e2 e3 => ?_⟩, fun y c e => ?_, I.free, I.freeC, fun p hp => ?_, tracked ⟨oL, hoL, I.free⟩ hs, by simpa using I.len⟩ ⟨_, hs, .inl rfl⟩
    · exact (hs.2 b (Nat.ne_of_lt (Nat.lt_of_lt_of_le (Heap.lt_size e) I.ok.above))).trans (I.base.keep b o e n hb hx)
    · obtain ⟨sl, e1⟩ := I.base.slot b o e n hb hx
      exact ⟨sl, (hs.2 b (Nat.ne_of_lt (Nat.lt_of_lt_of_le (Heap.lt_size e) I.ok.above))).trans e1⟩
    · obtain ⟨o', e1⟩ := I.base.there b o e hx
      exact ⟨o', (hs.2 b (Nat.ne_of_lt (Nat.lt_of_lt_of_le (Heap.lt_size e) I.ok.above))).trans e1⟩
    · by_cases hj : j = i
      · subst hj
        rw [hi] at e1; cases e1
        rw [List.getElem?_set_self hiσ] at e2
        cases e2
        exact ⟨u, r, .inl ⟨hk, by simp⟩⟩
      · rw [List.getElem?_set_ne (Ne.symm hj)] at e2
        obtain ⟨u', r', q⟩ := hl j y v' e1 e2 e3
        refine ⟨u', r', ?_⟩
        rcases q with ⟨k, e⟩ | ⟨k, c, e, z⟩
        · refine .inl ⟨k, ?_⟩
          have : y ≠ x := fun e => hj (nodup_ix hN e1 (e ▸ hi))
          simp [this, e]
        · exact .inr ⟨k, c, e, z.sameBut hs (cne y c e)⟩
    · obtain ⟨w', z⟩ := I.cell y c e
      exact ⟨w', z.sameBut hs (cne y c e)⟩
    · obtain ⟨e, n, ne, nf, d⟩ := I.pin p hp
      exact ⟨(hs.2 p.1 ne).trans e, n, ne, nf, d⟩
  · have hfn : X.fn x = true := by
      rcases hf with z | z
      · exact z
      · rw [z] at hk; cases hk
    obtain ⟨c, hc⟩ := I.ok.has x (.inl hk)
    obtain ⟨w', z⟩ := I.cell x c hc
    refine wpAny_storeName_cell I.ok.kind hk hc z (fun h' hc' hs => ?_)
    obtain ⟨oc, hoc, hocd⟩ := id z
    refine h { s with heap := h' } ⟨I.ok, I.os, I.bare, ⟨fun b o e n hb hx => ?_, fun b o e n hb hx => ?_, I.base.free, fun b o e hx => ?_, I.base.tups, I.base.frzs, I.base.tbls⟩, ⟨m, hn.sameBut hs (Ne.symm (cne x c hc)), fun j y v' e1 e2 e3 => ?_⟩, fun y c' e => ?_, I.free, I.freeC, fun p hp => ?_, tracked ⟨oc, hoc, I.freeC x c hc⟩ hs, by simpa using I.len⟩ ⟨c, hs, .inr hc⟩
    · exact (hs.2 b (Nat.ne_of_lt (Nat.lt_of_lt_of_le (Heap.lt_size e) (I.ok.cab x c hfn hc)))).trans (I.base.keep b o e n hb hx)
    · obtain ⟨sl, e1⟩ := I.base.slot b o e n hb hx
      exact ⟨sl, (hs.2 b (Nat.ne_of_lt (Nat.lt_of_lt_of_le (Heap.lt_size e) (I.ok.cab x c hfn hc)))).trans e1⟩
    · obtain ⟨o', e1⟩ := I.base.there b o e hx
      exact ⟨o', (hs.2 b (Nat.ne_of_lt (Nat.lt_of_lt_of_le (Heap.lt_size e) (I.ok.cab x c hfn hc)))).trans e1⟩
    · by_cases hj : j = i
      · subst hj
        rw [hi] at e1; cases e1
        rw [List.getElem?_set_self hiσ] at e2
        cases e2
        exact ⟨u, r, .inr ⟨.inl hk, c, hc, hc'⟩⟩
      · rw [List.getElem?_set_ne (Ne.symm hj)] at e2
        obtain ⟨u', r', q⟩ := hl j y v' e1 e2 e3
        refine ⟨u', r', ?_⟩
        rcases q with q | ⟨k, c', e, z'⟩
        · exact .inl q
        · refine .inr ⟨k, c', e, z'.sameBut hs ?_⟩
          rintro rfl
          exact hj (nodup_ix hN e1 (I.ok.inj _ _ _ e hc ▸ hi))
    · by_cases hcc : c' = c
      · subst hcc; exact ⟨_, hc'⟩
      · obtain ⟨w2, z2⟩ := I.cell y c' e
        exact ⟨w2, z2.sameBut hs hcc⟩
    · obtain ⟨e, n, ne, nf, d⟩ := I.pin p hp
      refine ⟨(hs.2 p.1 ?_).trans e, n, ne, nf, d⟩
      intro q
      rw [q, hoc] at e
      have q' : oc = p.2 := Option.some.inj e
      exact d w' (by rw [← q']; exact hocd)
theorem store_ok {M : Model} {A : Around} {E : Value → Shared → Prop} {i : Nat} {x : Str} {v : V} {u : Value} {Q : Unit → Shared → Prop} (I : Inv X pins σ H s) (hN : X.N.Nodup) (hi : X.N[i]? = some x) (hx : Loc X.env.scope x) (r : RelV v u)
    (h : ∀ s', Inv X pins (σ.set i (some v)) H s' → Q () s') (hf : X.fn x = true ∨ X.env.scope.names.lookup x = some .local := by first | exact .inl rfl | exact .inr rfl | assumption) : wpAny M A (storeName X.env x u) Q E s :=
  store_ok2 I hN hi hx r (fun s' I' _ => h s' I') hf
end

/-- an exception: its class, its own dict's address (where it has one), the abstract heap behind it -/
abbrev XK := Value → Option Addr → Hp → Prop
abbrev St := List (Option V)
abbrev VK := V → Hp → Prop
/-- an expression's reading; a test's; an argument list's -/
abbrev TE := St → Hp → VK → Prop
abbrev TT := St → Hp → (Bool → Hp → Prop) → Prop
abbrev TA := St → Hp → (List V → Hp → Prop) → Prop
/-- what is wanted behind a statement -/
structure Ends where
  nx : St → Hp → Prop
  rt : VK
  bk : St → Hp → Prop := fun _ _ => False
  ct : St → Hp → Prop := fun _ _ => False
abbrev TS := Ends → St → Hp → Prop

def EP (X : Cx) (pins : List (Addr × Obj)) (σ : St) (Q : VK) (u : Value) (s' : Shared) : Prop := ∃ v H', Inv X pins σ H' s' ∧ RelV v u ∧ Q v H'
def TP (X : Cx) (pins : List (Addr × Obj)) (σ : St) (Q : Bool → Hp → Prop) (b : Bool) (s' : Shared) : Prop := ∃ H', Inv X pins σ H' s' ∧ Q b H'
def AP (X : Cx) (pins : List (Addr × Obj)) (σ : St) (Q : List V → Hp → Prop) (us : List Value) (s' : Shared) : Prop := ∃ vs H', Inv X pins σ H' s' ∧ Vals vs us ∧ Q vs H'
def SP (X : Cx) (pins : List (Addr × Obj)) (D : Ends) (f : Flow) (s' : Shared) : Prop :=
  match f with
  | .next => ∃ σ' H', Inv X pins σ' H' s' ∧ D.nx σ' H'
  | .brk => ∃ σ' H', Inv X pins σ' H' s' ∧ D.bk σ' H'
  | .cont => ∃ σ' H', Inv X pins σ' H' s' ∧ D.ct σ' H'
  | .ret u => ∃ v σ' H', Inv X pins σ' H' s' ∧ RelV v u ∧ D.rt v H'

def PE (X : Cx) (e : Expr) (t : TE) : Prop :=
  ∀ (pins : List (Addr × Obj)) (s : Shared) (σ : St) (H : Hp) (Q : VK), Inv X pins σ H s → t σ H Q → wpAny (model X.prog X.w) X.A (eval e X.env) (EP X pins σ Q) X.xe s
def PT (X : Cx) (e : Expr) (t : TT) : Prop :=
  ∀ (pins : List (Addr × Obj)) (s : Shared) (σ : St) (H : Hp) (Q : Bool → Hp → Prop), Inv X pins σ H s → t σ H Q → wpAny (model X.prog X.w) X.A (isTrue e X.env (eval e X.env)) (TP X pins σ Q) X.xe s
/-- a test whatever its 'whole' is (and, or) -/
def PW (X : Cx) (e : Expr) (t : TT) : Prop :=
  ∀ (whole : Sem Value) (pins : List (Addr × Obj)) (s : Shared) (σ : St) (H : Hp) (Q : Bool → Hp → Prop), Inv X pins σ H s → t σ H Q → wpAny (model X.prog X.w) X.A (isTrue e X.env whole) (TP X pins σ Q) X.xe s
theorem PW.pt {X : Cx} {e : Expr} {t : TT} (h : PW X e t) : PT X e t := h _
/-- an argument list (no star), from the left -/
def PA (X : Cx) (es : List Expr) (t : TA) : Prop :=
  ∀ (pos : Pos) (pins : List (Addr × Obj)) (s : Shared) (σ : St) (H : Hp) (Q : List V → Hp → Prop), Inv X pins σ H s → t σ H Q → wpAny (model X.prog X.w) X.A (spliced (backTo pos (starEach es X.env))) (AP X pins σ Q) X.xe s
def PS (X : Cx) (st : Stmt) (t : TS) : Prop :=
  ∀ (pins : List (Addr × Obj)) (s : Shared) (σ : St) (H : Hp) (D : Ends), Inv X pins σ H s → t D σ H → wpAny (model X.prog X.w) X.A (exec st X.env) (SP X pins D) X.xe s
def PSs (X : Cx) (st : List Stmt) (t : TS) : Prop :=
  ∀ (pins : List (Addr × Obj)) (s : Shared) (σ : St) (H : Hp) (D : Ends), Inv X pins σ H s → t D σ H → wpAny (model X.prog X.w) X.A (execs st X.env) (SP X pins D) X.xe s
/-- weaken the end -/
theorem thn {α : Type} {t : Sem α} {Q Q' : α → Shared → Prop} {M : Model} {A : Around} {E : Value → Shared → Prop} {s : Shared} (h : wpAny M A t Q E s) (hQ : ∀ a s, Q a s → Q' a s) : wpAny M A t Q' E s := wpAny_mono h hQ fun _ _ x => x
end L2

namespace L2
open PySem PySem.Spec PyProof.Rows
section
variable {X : Cx}

/-- two expressions in a row -/
theorem bin {a b : Expr} {ta tb : TE} (ha : PE X a ta) (hb : PE X b tb) {pins : List (Addr × Obj)} {s : Shared} {σ : St} {H : Hp} {R : V → V → Hp → Prop} (I : Inv X pins σ H s) (h : ta σ H fun x H1 => tb σ H1 fun y H2 => R x y H2)
    {α : Type} {Q : α → Shared → Prop} {f : Value → Value → Sem α}
    (hf : ∀ v u s2 x y H2, Inv X pins σ H2 s2 → RelV x v → RelV y u → R x y H2 → wpAny (model X.prog X.w) X.A (f v u) Q X.xe s2) :
    wpAny (model X.prog X.w) X.A (eval a X.env) (fun v s₁ => wpAny (model X.prog X.w) X.A (eval b X.env) (fun u s₂ => wpAny (model X.prog X.w) X.A (f v u) Q X.xe s₂) X.xe s₁) X.xe s := by
  refine thn (ha pins s σ H _ I h) fun v s1 ⟨x, H1, I1, r1, q1⟩ => ?_
  refine thn (hb pins s1 σ H1 _ I1 q1) fun u s2 ⟨y, H2, I2, r2, q2⟩ => ?_
  exact hf v u s2 x y H2 I2 r1 r2 q2

def tVar (i : Nat) : TE := fun σ H Q => ∃ v, σ[i]? = some (some v) ∧ Q v H
def tC (v : V) : TE := fun _ H Q => Q v H
theorem pe_var {i : Nat} {x : Str} {pos : Pos} (hN : X.N[i]? = some x) (hv : Vis X.env.scope x) (hd : (x == ("__debug__" : Str)) = false := by decide) (hcd : (x == ("__classdict__" : Str)) = false := by decide) : PE X (.Name x pos) (tVar i) := by
  intro pins s σ H Q I h
  obtain ⟨v, e, h⟩ := h
  obtain ⟨m, hn, hl⟩ := I.loc
  obtain ⟨u, r, l⟩ := hl i x v hN e hv
  have fin : EP X pins σ Q u s := ⟨v, H, I, r, h⟩
  rcases l with ⟨hk, hm⟩ | ⟨hk, c, hc, hcell⟩
  · exact wpAny_Name (wpAny_loadName_local I.ok.kind hk hn hm fin) hd
  · rcases hk with hk | hk
    · exact wpAny_Name (wpAny_loadName_cell I.ok.kind hk hc hcell fin) hd
    · exact wpAny_Name (wpAny_loadName_free I.ok.kind hk hc hcell fin hcd) hd
theorem pe_int {i j pos} : PE X (.Constant (.int i) j pos) (tC (.int i)) := fun _ _ _ H _ I h => wpAny_Constant_int ⟨.int i, H, I.tok _, ⟨_, rfl⟩, h⟩
theorem pe_bl {b j pos} : PE X (.Constant (.bool b) j pos) (tC (.bl b)) := fun _ _ _ H _ I h => Constant_bool ⟨.bl b, H, I, rfl, h⟩
theorem pe_str {x j pos} : PE X (.Constant (.str x) j pos) (tC (.str x)) := fun _ _ _ H _ I h => Calls.Constant_str ⟨.str x, H, I.tok _, ⟨_, rfl⟩, h⟩

/-- a global name of the def -/
def Gl (X : Cx) (x : Str) : Prop := X.env.kindOf x = some .globalImplicit
theorem ld_glob {E : Value → Shared → Prop} {pins : List (Addr × Obj)} {s : Shared} {σ : St} {H : Hp} {x : Str} {u : Value} {pos : Pos} {Q : Value → Shared → Prop} (I : Inv X pins σ H s) (hg : Gl X x) (hm : X.mg x = some u) (h : Q u s)
    (hd : (x == ("__debug__" : Str)) = false := by decide) : wpAny (model X.prog X.w) X.A (eval (.Name x pos) X.env) Q E s :=
  Calls.Name_function_global I.ok.kind hg (Calls.loadGlobal_global (by rw [I.ok.glob]; exact I.mod.glob.keeps I.bk) hm h) hd
theorem ld_blt {E : Value → Shared → Prop} {pins : List (Addr × Obj)} {s : Shared} {σ : St} {H : Hp} {x : Str} {u : Value} {pos : Pos} {Q : Value → Shared → Prop} (I : Inv X pins σ H s) (hg : Gl X x) (hm : X.mg x = none) (hv : bootBuiltins x = some u) (h : Q u s)
    (hn : x ≠ "__name__" := by decide) (hd : (x == ("__debug__" : Str)) = false := by decide) : wpAny (model X.prog X.w) X.A (eval (.Name x pos) X.env) Q E s := by
  obtain ⟨mb, h1, h2⟩ := I.mod.blt
  exact Calls.Name_function_global I.ok.kind hg (Calls.loadGlobal_builtin (by rw [I.ok.glob]; exact I.mod.glob.keeps I.bk) hm (by rw [I.ok.blt]; exact h1.keeps I.bk) ((h2 x hn).trans hv) h) hd
/-- a module's constant, a class, a function, as a value -/
theorem pe_glob {x : Str} {v : V} {u : Value} {pos : Pos} (hg : Gl X x) (hm : X.mg x = some u) (r : RelV v u) (hd : (x == ("__debug__" : Str)) = false := by decide) : PE X (.Name x pos) (tC v) :=
  fun _ _ _ H _ I h => ld_glob I hg hm ⟨v, H, I, r, h⟩ hd
theorem pe_bltn {x : Str} {v : V} {u : Value} {pos : Pos} (hg : Gl X x) (hm : X.mg x = none) (hv : bootBuiltins x = some u) (r : RelV v u) (hn : x ≠ "__name__" := by decide) (hd : (x == ("__debug__" : Str)) = false := by decide) : PE X (.Name x pos) (tC v) :=
  fun _ _ _ H _ I h => ld_blt I hg hm hv ⟨v, H, I, r, h⟩ hn hd

variable {a b : Expr} {ta tb : TE} {pos : Pos}
/-- is None -/
def tIsN (ta : TE) : TE := fun σ H Q => ta σ H fun x H1 => Q (.bl (decide (x = .non))) H1
def tNotN (ta : TE) : TE := fun σ H Q => ta σ H fun x H1 => Q (.bl (!decide (x = .non))) H1
/-- a comparison as a value, as a test -/
def tB (t : TE) : TT := fun σ H Q => t σ H fun x H1 => ∃ c, x = .bl c ∧ Q c H1
/-- an expression whose value is a bool, as a test -/
theorem pt_val {e : Expr} {t : TE} (h : PE X e t) (he : ∀ whole, isTrue e X.env whole = (do let v ← whole; standAt e.pos; holding [v] (truthy v)) := by intro _; rfl) : PT X e (tB t) := by
  intro pins s σ H Q I hw
  refine isTrue_plain (thn (h pins s σ H _ I hw) fun v s1 ⟨x, H1, I1, r1, q1⟩ => ?_) (he _)
  obtain ⟨d, rfl, q⟩ := q1
  cases r1
  exact wpAny_truthy_bool ⟨H1, I1, q⟩

variable {tA tB' : TT} {rest : List Expr}
def tAnd (t u : TT) : TT := fun σ H Q => t σ H fun c H1 => if c = true then u σ H1 Q else Q false H1
def tOr (t u : TT) : TT := fun σ H Q => t σ H fun c H1 => if c = true then Q true H1 else u σ H1 Q
def tNot (t : TT) : TT := fun σ H Q => t σ H fun c H1 => Q (!c) H1
theorem pw_and1 (ha : PT X a tA) : PW X (.BoolOp .And [a] pos) tA := by
  intro wh pins s σ H Q I h
  refine isTrue_and (thn (ha pins s σ H Q I h) fun c s1 e => ?_)
  cases c with
  | true => exact isTrue_and_nil e
  | false => exact e
theorem pw_or1 (ha : PT X a tA) : PW X (.BoolOp .Or [a] pos) tA := by
  intro wh pins s σ H Q I h
  refine isTrue_or (thn (ha pins s σ H Q I h) fun c s1 e => ?_)
  cases c with
  | false => exact isTrue_or_nil e
  | true => exact e
theorem pw_and (ha : PT X a tA) (hb : PW X (.BoolOp .And (b :: rest) pos) tB') : PW X (.BoolOp .And (a :: b :: rest) pos) (tAnd tA tB') := by
  intro wh pins s σ H Q I h
  refine isTrue_and (thn (ha pins s σ H _ I h) fun c s1 ⟨H1, I1, q1⟩ => ?_)
  cases c with
  | true => exact hb wh pins s1 σ H1 Q I1 q1
  | false => exact ⟨H1, I1, q1⟩
theorem pw_or (ha : PT X a tA) (hb : PW X (.BoolOp .Or (b :: rest) pos) tB') : PW X (.BoolOp .Or (a :: b :: rest) pos) (tOr tA tB') := by
  intro wh pins s σ H Q I h
  refine isTrue_or (thn (ha pins s σ H _ I h) fun c s1 ⟨H1, I1, q1⟩ => ?_)
  cases c with
  | true => exact ⟨H1, I1, q1⟩
  | false => exact hb wh pins s1 σ H1 Q I1 q1
theorem pt_not (ha : PT X a tA) : PT X (.UnaryOp .Not a pos) (tNot tA) := by
  intro pins s σ H Q I h
  exact isTrue_not (ha pins s σ H (fun c H1 => Q (!c) H1) I h)
/-- .. as values (bools) -/
def tAndV (ta tb : TE) : TE := fun σ H Q => ta σ H fun x H1 => ∃ c, x = .bl c ∧ if c = true then tb σ H1 Q else Q (.bl false) H1
def tOrV (ta tb : TE) : TE := fun σ H Q => ta σ H fun x H1 => ∃ c, x = .bl c ∧ if c = true then Q (.bl true) H1 else tb σ H1 Q
def tNotV (ta : TE) : TE := fun σ H Q => ta σ H fun x H1 => ∃ c, x = .bl c ∧ Q (.bl (!c)) H1
theorem pe_one {op} {t : TE} (h : PE X a t) : PE X (.BoolOp op [a] pos) t := fun pins s σ H Q I hw => BoolOp_one (h pins s σ H Q I hw)
theorem pe_or (ha : PE X a ta) (hb : PE X (.BoolOp .Or (b :: rest) pos) tb) : PE X (.BoolOp .Or (a :: b :: rest) pos) (tOrV ta tb) := by
  intro pins s σ H Q I h
  refine BoolOp_or (thn (ha pins s σ H _ I h) fun v s1 ⟨x, H1, I1, r1, q1⟩ => ?_)
  obtain ⟨c, rfl, q1⟩ := q1
  cases r1
  refine wpAny_truthy_bool ?_
  cases c with
  | false => exact hb pins s1 σ H1 Q I1 q1
  | true => exact ⟨.bl true, H1, I1, rfl, q1⟩
/-- a if t else b -/
def tIf (t : TT) (ta tb : TE) : TE := fun σ H Q => t σ H fun c H1 => if c = true then ta σ H1 Q else tb σ H1 Q
theorem pe_ifExp {c : Expr} (hc : PT X c tA) (ha : PE X a ta) (hb : PE X b tb) : PE X (.IfExp c a b pos) (tIf tA ta tb) := by
  intro pins s σ H Q I h
  refine wpAny_IfExp (thn (hc pins s σ H _ I h) fun d s1 ⟨H1, I1, q1⟩ => ?_)
  cases d with
  | true => exact ha pins s1 σ H1 Q I1 q1
  | false => exact hb pins s1 σ H1 Q I1 q1
end
end L2

namespace L2
open PySem PySem.Spec PyProof.Rows

def SqL (K : PySem.W.Frag) (H : Hp) (a : Addr) (xs : List V) : Prop :=
  Rd H a (.lst xs) ∨
    ∃ (o : Obj) (its : Array Value) (n : Nat), K.lookup a = some o ∧ o.cls = .type "list" ∧ o.dict = none ∧ o.data = .seq its n ∧ its.size ≤ sizeLine ∧ Vals xs its.toList
def SqT (K : PySem.W.Frag) (H : Hp) (a : Addr) (xs : List V) : Prop :=
  Rd H a (.tup xs) ∨
    ∃ (o : Obj) (its : Array Value) (n : Nat), K.lookup a = some o ∧ o.cls = .type "tuple" ∧ o.data = .seq its n ∧ its.size ≤ sizeLine ∧ Vals xs its.toList
def absV : Value → Option V
  | .none => some .non
  | .bool b => some (.bl b)
  | .int i _ => some (.int i)
  | .str x _ => some (.str x)
  | .bytes b _ => some (.byt b)
  | .float b _ => some (.flt b)
  | .ref a => some (.ref a)
  | .type n => some (.ty n)
  | _ => none
theorem RelV.abs {x : V} {u : Value} (r : RelV x u) : absV u = some x := by
  cases x with
  | non => cases r; rfl
  | bl _ => cases r; rfl
  | int _ => obtain ⟨t, rfl⟩ := r; rfl
  | str _ => obtain ⟨t, rfl⟩ := r; rfl
  | byt _ => obtain ⟨t, rfl⟩ := r; rfl
  | flt _ => obtain ⟨t, rfl⟩ := r; rfl
  | ref _ => cases r; rfl
  | ty _ => cases r; rfl
theorem RelV.inj {x y : V} {u : Value} (r : RelV x u) (q : RelV y u) : x = y := Option.some.inj (r.abs.symm.trans q.abs)
theorem Vals.inj : ∀ {xs ys : List V} {us : List Value}, Vals xs us → Vals ys us → xs = ys
  | _, _, _, .nil, .nil => rfl
  | _, _, _, .cons r t, .cons r' t' => by rw [r.inj r', Vals.inj t t']
section
variable {X : Cx} {pins : List (Addr × Obj)} {σ : St} {H : Hp} {s : Shared} {a : Addr} {xs ys : List V}
theorem SqL.of {K : PySem.W.Frag} (h : H a = some (.lst xs)) : SqL K H a xs := .inl (.inl h)
theorem SqT.of {K : PySem.W.Frag} (h : H a = some (.tup xs)) : SqT K H a xs := .inl (.inl h)
theorem Inv.list (I : Inv X pins σ H s) (h : SqL X.K H a xs) : ∃ its : List Value, Vals xs its ∧ PlainL s.heap a its.toArray ∧ xs.length ≤ sizeLine := by
  rcases h with h | ⟨o, its, n, hk, hc, hd, hs, hz, r⟩
  · obtain ⟨z, its, n, r, e⟩ := h.ok I.hok
    exact ⟨its, r, ⟨_, n, e, rfl, rfl, rfl⟩, z⟩
  · refine ⟨its.toList, r, ⟨o, n, I.kIn a o hk, hc, hd, by simpa using hs⟩, ?_⟩
    have e := r.length
    simp only [Array.length_toList] at e
    omega
theorem Inv.tuple (I : Inv X pins σ H s) (h : SqT X.K H a xs) : ∃ its : List Value, Vals xs its ∧ IsTup s.heap a its.toArray ∧ xs.length ≤ sizeLine := by
  rcases h with h | ⟨o, its, n, hk, hc, hs, hz, r⟩
  · obtain ⟨z, its, r, p⟩ := h.ok I.hok
    exact ⟨its, r, p, z⟩
  · refine ⟨its.toList, r, ⟨o, I.kIn a o hk, hc, n, by simpa using hs⟩, ?_⟩
    have e := r.length
    simp only [Array.length_toList] at e
    omega
theorem Inv.list_inj (I : Inv X pins σ H s) (h : SqL X.K H a xs) (h' : SqL X.K H a ys) : xs = ys := by
  obtain ⟨its, r, ⟨o, n, e, _, _, d⟩, _⟩ := I.list h
  obtain ⟨its', r', ⟨o', n', e', _, _, d'⟩, _⟩ := I.list h'
  rw [e] at e'; cases e'
  rw [d] at d'
  injection d' with d1 _
  have : its = its' := by simpa using congrArg Array.toList d1
  subst this
  exact r.inj r'
theorem Inv.tuple_inj (I : Inv X pins σ H s) (h : SqT X.K H a xs) (h' : SqT X.K H a ys) : xs = ys := by
  obtain ⟨its, r, ⟨o, e, _, n, d⟩, _⟩ := I.tuple h
  obtain ⟨its', r', ⟨o', e', _, n', d'⟩, _⟩ := I.tuple h'
  rw [e] at e'; cases e'
  rw [d] at d'
  injection d' with d1 _
  have : its = its' := by simpa using congrArg Array.toList d1
  subst this
  exact r.inj r'
end

abbrev Cx.wish (X : Cx) (E : Value → Shared → Prop) : Cx := { X with xe := E }
/-- no exception leaves -/
abbrev Cx.nox (X : Cx) : Cx := X.wish fun _ _ => False
theorem Cx.Ok.wish {X : Cx} (ok : X.Ok) (E : Value → Shared → Prop) : (X.wish E).Ok :=
  ⟨ok.mod, ok.kind, ok.glob, ok.blt, ok.above, ok.inj, ok.has, ok.cab, ok.hd, ok.frames, ok.stk, ok.exf, ok.bs, ok.bsz, ok.noex, ok.exfs, ok.funs, ok.frf⟩
theorem Cx.Ok.unwish {X : Cx} {E : Value → Shared → Prop} (ok : (X.wish E).Ok) : X.Ok :=
  ⟨ok.mod, ok.kind, ok.glob, ok.blt, ok.above, ok.inj, ok.has, ok.cab, ok.hd, ok.frames, ok.stk, ok.exf, ok.bs, ok.bsz, ok.noex, ok.exfs, ok.funs, ok.frf⟩
section
variable {X : Cx} {pins : List (Addr × Obj)} {σ : St} {H : Hp} {s : Shared} {E : Value → Shared → Prop}
theorem Inv.wish (I : Inv X pins σ H s) (E : Value → Shared → Prop) : Inv (X.wish E) pins σ H s := ⟨I.ok.wish E, I.os, I.bare, I.base, I.loc, I.cell, I.free, I.freeC, I.pin, I.hok, I.len⟩
theorem Inv.unwish (I : Inv (X.wish E) pins σ H s) : Inv X pins σ H s := ⟨I.ok.unwish, I.os, I.bare, I.base, I.loc, I.cell, I.free, I.freeC, I.pin, I.hok, I.len⟩
theorem SP.unwish {D : Ends} {f : Flow} {s' : Shared} (h : SP (X.wish E) pins D f s') : SP X pins D f s' := by
  cases f with
  | next => obtain ⟨σ', H', I, q⟩ := h; exact ⟨σ', H', I.unwish, q⟩
  | brk => obtain ⟨σ', H', I, q⟩ := h; exact ⟨σ', H', I.unwish, q⟩
  | cont => obtain ⟨σ', H', I, q⟩ := h; exact ⟨σ', H', I.unwish, q⟩
  | ret u => obtain ⟨v, σ', H', I, r, q⟩ := h; exact ⟨v, σ', H', I.unwish, r, q⟩
theorem PE.nox {e : Expr} {t : TE} (h : PE X.nox e t) : PE X e t := fun pins s σ H Q I hw =>
  wpAny_mono (h pins s σ H Q (I.wish _) hw) (fun _ _ ⟨v, H', I', r, q⟩ => ⟨v, H', I'.unwish, r, q⟩) fun _ _ z => False.elim z
theorem PT.nox {e : Expr} {t : TT} (h : PT X.nox e t) : PT X e t := fun pins s σ H Q I hw =>
  wpAny_mono (h pins s σ H Q (I.wish _) hw) (fun _ _ ⟨H', I', q⟩ => ⟨H', I'.unwish, q⟩) fun _ _ z => False.elim z
theorem PSs.nox {st : List Stmt} {t : TS} (h : PSs X.nox st t) : PSs X st t := fun pins s σ H D I hw =>
  wpAny_mono (h pins s σ H D (I.wish _) hw) (fun _ _ q => q.unwish) fun _ _ z => False.elim z
end

section
variable {X : Cx} {st : Stmt} {rest : List Stmt} {t u : TS} {e : Expr} {te : TE} {pos : Pos}
def tNext : TS := fun D σ H => D.nx σ H
def tSeq (t u : TS) : TS := fun D σ H => t { D with nx := u D } σ H
theorem pss_nil : PSs X [] tNext := fun _ _ σ H _ I h => wpAny_execs_nil ⟨σ, H, I, h⟩
theorem pss_cons (h1 : PS X st t) (h2 : PSs X rest u) : PSs X (st :: rest) (tSeq t u) := by
  intro pins s σ H D I h
  refine wpAny_execs_cons (thn (h1 pins s σ H { D with nx := u D } I h) fun f s1 q => ?_)
  cases f with
  | next =>
    obtain ⟨σ', H', I', q⟩ := q
    exact h2 pins s1 σ' H' D I' q
  | ret v => exact q
  | brk => exact q
  | cont => exact q
theorem pss_one (h1 : PS X st t) : PSs X [st] t := by
  intro pins s σ H D I h
  refine wpAny_execs_cons (thn (h1 pins s σ H D I h) fun f s1 q => ?_)
  cases f with
  | next => exact wpAny_execs_nil q
  | ret v => exact q
  | brk => exact q
  | cont => exact q
/-- in a def's body nothing is shown -/
theorem Inv.quiet {pins : List (Addr × Obj)} {σ : St} {H : Hp} {s : Shared} (I : Inv X pins σ H s) : interactive X.env = false := by simp [interactive, I.ok.kind]
/-- an expression whose value is dropped -/
def tDrop (te : TE) : TS := fun D σ H => te σ H fun _ H1 => D.nx σ H1
theorem ps_expr (he : PE X e te) (hs : swapsWith e none pos.line X.env = pure false := by rfl) : PS X (.Expr e pos) (tDrop te) := by
  intro pins s σ H D I h
  exact wpAny_Expr_any (thn (he pins s σ H _ I h) fun v s1 ⟨x, H1, I1, r1, q1⟩ => ⟨σ, H1, I1, q1⟩) I.quiet hs
def tRet (te : TE) : TS := fun D σ H => te σ H D.rt
theorem ps_ret (he : PE X e te) : PS X (.Return (some e) pos) (tRet te) := by
  intro pins s σ H D I h
  exact wpAny_Return_some (thn (he pins s σ H _ I h) fun v s1 ⟨x, H1, I1, r1, q1⟩ => ⟨x, σ, H1, I1, r1, q1⟩)
def tRetN : TS := fun D _ H => D.rt .non H
def tIfS (c : TT) (t u : TS) : TS := fun D σ H => c σ H fun b H1 => if b = true then t D σ H1 else u D σ H1
theorem ps_if {c : Expr} {a b : List Stmt} {tc : TT} (hc : PT X c tc) (ha : PSs X a t) (hb : PSs X b u) : PS X (.If c a b pos) (tIfS tc t u) := by
  intro pins s σ H D I h
  refine wpAny_If (thn (hc pins s σ H _ I h) fun d s1 ⟨H1, I1, q1⟩ => ?_)
  cases d with
  | true => exact ha pins s1 σ H1 D I1 q1
  | false => exact hb pins s1 σ H1 D I1 q1
end

abbrev TG := V → St → Hp → (St → Hp → Prop) → Prop
abbrev TGs := List V → St → Hp → (St → Hp → Prop) → Prop
def PG (X : Cx) (target : Expr) (t : TG) : Prop :=
  ∀ (pins : List (Addr × Obj)) (s : Shared) (σ : St) (H : Hp) (v : V) (u : Value) (Q : St → Hp → Prop), Inv X pins σ H s → RelV v u → t v σ H Q →
    wpAny (model X.prog X.w) X.A (assign target X.env u) (fun _ s' => ∃ σ' H', Inv X pins σ' H' s' ∧ Q σ' H') X.xe s
/-- o[i] = v, by values -/
abbrev TSet := V → V → V → Hp → (Hp → Prop) → Prop
def PSet (X : Cx) (t : TSet) : Prop :=
  ∀ (pins : List (Addr × Obj)) (s : Shared) (σ : St) (H : Hp) (o i v : V) (ov iv u : Value) (Q : Hp → Prop), Inv X pins σ H s → RelV o ov → RelV i iv → RelV v u → t o i v H Q →
    wpAny (model X.prog X.w) X.A (setItem ov iv u) (fun _ s' => ∃ H', Inv X pins σ H' s' ∧ Q H') X.xe s
section
variable {X : Cx} {pos : Pos}
def gName (i : Nat) : TG := fun v σ H Q => Q (σ.set i (some v)) H
theorem pg_name {i : Nat} {x : Str} (hN : X.N.Nodup) (hi : X.N[i]? = some x) (hx : Loc X.env.scope x) (hf : X.fn x = true ∨ X.env.scope.names.lookup x = some .local := by first | exact .inl rfl | exact .inr rfl | assumption) : PG X (.Name x pos) (gName i) := by
  intro pins s σ H v u Q I r h
  exact wpAny_assign_Name (store_ok I hN hi hx r (fun s' I' => ⟨_, H, I', h⟩) hf)
def gNil : TGs := fun vs σ H Q => vs = [] ∧ Q σ H
def gCons (t : TG) (u : TGs) : TGs := fun vs σ H Q => ∃ v r, vs = v :: r ∧ t v σ H fun σ' H' => u r σ' H' Q
/-- (a, b, ..) = a tuple of that length -/
def gTup (K : PySem.W.Frag) (n : Nat) (t : TGs) : TG := fun v σ H Q => ∃ a xs, v = .ref a ∧ SqT K H a xs ∧ xs.length = n ∧ t xs σ H Q
/-- o[i] = .. -/
def gSub (to ti : TE) (t : TSet) : TG := fun v σ H Q => to σ H fun o H1 => ti σ H1 fun i H2 => t o i v H2 fun H3 => Q σ H3
theorem pg_sub {o i : Expr} {to ti : TE} {t : TSet} (ho : PE X o to) (hi : PE X i ti) (hs : PSet X t)
    (ha : ∀ v, assign (.Subscript o i pos) X.env v = (do
      let ov ← holding [v] (eval o X.env)
      let iv ← holding [v, ov] (eval i X.env)
      standAt pos
      holding [v, ov, iv] (setItem ov iv v)
      release [v, ov, iv] []) := by intro _; rfl) : PG X (.Subscript o i pos) (gSub to ti t) := by
  intro pins s σ H v u Q I r h
  rw [ha]
  refine wpAny_bind (wpAny_holding (thn (ho pins s σ H _ I h) fun ov s1 ⟨x, H1, I1, r1, q1⟩ => ?_))
  refine wpAny_bind (wpAny_holding (thn (hi pins s1 σ H1 _ I1 q1) fun iv s2 ⟨y, H2, I2, r2, q2⟩ => ?_))
  refine wpAny_bind (wpAny_standAt (wpAny_bind (wpAny_holding (thn (hs pins s2 σ H2 x y v ov iv u _ I2 r1 r2 r q2) fun _ s3 ⟨H3, I3, q3⟩ => ?_))))
  exact wpAny_release ⟨σ, H3, I3, q3⟩
/-- target = value -/
def tAsg (te : TE) (g : TG) : TS := fun D σ H => te σ H fun x H1 => g x σ H1 D.nx
theorem ps_asg {tg e : Expr} {te : TE} {g : TG} (he : PE X e te) (hg : PG X tg g) (hs : swapsWithSole [tg] e pos.line X.env = pure false := by rfl) (hw : swappedStores [tg] e X.env = pure none := by rfl)
    (h1 : (assignEach [tg] X.env).map (·.2) = [assign tg X.env] := by rfl) : PS X (.Assign [tg] e pos) (tAsg te g) := by
  intro pins s σ H D I h
  refine wpAny_Assign_stores (thn (he pins s σ H _ I h) fun v s1 ⟨x, H1, I1, r1, q1⟩ => ?_) hs hw
  rw [h1]
  exact thn (hg pins s1 σ H1 x v _ I1 r1 q1) fun _ s2 q => q
/-- name = value -/
theorem ps_set {i : Nat} {x : Str} {e : Expr} {te : TE} {pos' : Pos} (hN : X.N.Nodup) (hi : X.N[i]? = some x) (hx : Loc X.env.scope x) (he : PE X e te) (hs : swapsWith e (some (.Name x pos')) pos.line X.env = pure false := by rfl) (hf : X.fn x = true ∨ X.env.scope.names.lookup x = some .local := by first | exact .inl rfl | exact .inr rfl | assumption) :
    PS X (.Assign [.Name x pos'] e pos) (tAsg te (gName i)) := by
  intro pins s σ H D I h
  refine wpAny_Assign_Name (thn (he pins s σ H _ I h) fun v s1 ⟨y, H1, I1, r1, q1⟩ => ?_) hs
  exact store_ok I1 hN hi hx r1 (fun s2 I2 => ⟨_, H1, I2, q1⟩) hf
end

section
variable {X : Cx} {pos : Pos}
/-- the invariant W with its measure -/
def tWhile (c : TT) (tb : TS) : TS := fun D σ H => ∃ W : Nat → St → Hp → Prop, (∃ m, W m σ H) ∧ ∀ m σ H, W m σ H →
  c σ H fun b H1 => if b = true then ∃ N : St → Hp → Prop, (∀ σ' H', N σ' H' → ∃ m', m' < m ∧ W m' σ' H') ∧ tb { D with nx := N, ct := N, bk := D.nx } σ H1 else D.nx σ H1
theorem ps_while {c : Expr} {body : List Stmt} {tc : TT} {tb : TS} (hp : PassesOwn (model X.prog X.w) X.A X.env X.xe) (hc : PT X c tc) (hb : PSs X body tb) : PS X (.While c body [] pos) (tWhile tc tb) := by
  intro pins s σ H D I h
  obtain ⟨W, ⟨m0, w0⟩, turn⟩ := h
  refine wpAny_While (codeAny_whileLoop (fun n s' => ∃ σ' H', Inv X pins σ' H' s' ∧ W n σ' H') ?_ m0 ⟨σ, H, I, w0⟩)
  rintro n s1 ⟨σ1, H1, I1, w1⟩
  refine wpAny_passesOwn hp (thn (hc pins s1 σ1 H1 _ I1 (turn n σ1 H1 w1)) fun b s2 ⟨H2, I2, q2⟩ => ?_)
  cases b with
  | true =>
    obtain ⟨N, hN, q2⟩ := q2
    rw [if_pos rfl]
    refine wpAny_passesOwn hp (thn (hb pins s2 σ1 H2 _ I2 q2) fun f s3 q3 => ?_)
    cases f with
    | next =>
      obtain ⟨σ3, H3, I3, n3⟩ := q3
      obtain ⟨m', hm, w3⟩ := hN σ3 H3 n3
      exact ⟨m', hm, σ3, H3, I3, w3⟩
    | cont =>
      obtain ⟨σ3, H3, I3, n3⟩ := q3
      obtain ⟨m', hm, w3⟩ := hN σ3 H3 n3
      exact ⟨m', hm, σ3, H3, I3, w3⟩
    | brk => exact q3
    | ret v => exact q3
  | false =>
    rw [if_neg Bool.false_ne_true]
    exact wpAny_execs_nil ⟨σ1, H2, I2, q2⟩
end

/-- at turn i: it yields x (the heap may grow), or it stops -/
structure It where
  go : Nat → Hp → Prop
  yld : Nat → Hp → V → Hp → Prop
  stop : Nat → Hp → Prop
/-- the iterator's own objects may turn: they are not the frame's, not pinned, younger than the entry (or a comprehension's own) -/
def FpOk (X : Cx) (pins : List (Addr × Obj)) (H : Hp) (b : Addr) : Prop :=
  H b = none ∧ b ≠ X.env.locals ∧ b ∉ X.fs ∧ (b ∈ X.ex ∨ X.s₀.heap.objs.size ≤ b) ∧ (∀ x c, X.env.cells.lookup x = some c → c ≠ b) ∧ ∀ p ∈ X.pn ++ pins, p.1 ≠ b
theorem Inv.fpOk {X : Cx} {pins : List (Addr × Obj)} {σ : St} {H H' : Hp} {s : Shared} {b : Addr} (I : Inv X pins σ H s) (hb : s.heap.objs.size ≤ b) (hn : H' b = none) : FpOk X pins H' b := by
  refine ⟨hn, Nat.ne_of_gt (Nat.lt_of_lt_of_le I.lt hb), I.nofs hb, .inr (Nat.le_trans I.sz hb), fun x c e z => ?_, fun p hp z => ?_⟩
  · obtain ⟨v, q⟩ := I.cell x c e
    exact absurd (Nat.lt_of_lt_of_le q.lt (by rw [z]; exact hb)) (Nat.lt_irrefl _)
  · exact absurd (Nat.lt_of_lt_of_le (Heap.lt_size (I.pin p hp).1) (by rw [z]; exact hb)) (Nat.lt_irrefl _)
structure Turn (P : Program) (w : World) (K : PySem.W.Frag) (tg : Expr) (J : It) (fp : List Addr) (it : Addr) (tn : Nat → Heap → Prop) : Prop where
  mem : it ∈ fp
  obj : ∀ i h, tn i h → ∀ b ∈ fp, ∃ o, h.get? b = some o ∧ ∀ v, o.data ≠ .cell v
  keep : ∀ i h h', tn i h → (∀ b ∈ fp, ∀ o, h.get? b = some o → h'.get? b = some o) → tn i h'
  item : ∀ (X : Cx), X.prog = P → X.w = w → X.K = K → X.calm = true → ∀ (i : Nat) (pins : List (Addr × Obj)) (s : Shared) (σ : St) (H : Hp) (E : Value → Shared → Prop), Inv X pins σ H s → (∀ b ∈ fp, FpOk X pins H b) → tn i s.heap → J.go i H →
    wpAny (model P w) X.A (pyNext (.ref it)) (fun r s1 => ∃ u, r = some u ∧
      wpAny (model P w) X.A (letOwnedTupleGo tg (.ref it) u) (fun _ s2 => ∃ x H', Inv X pins σ H' s2 ∧ RelV x u ∧ J.yld i H x H' ∧ tn (i + 1) s2.heap ∧ ∀ b ∈ fp, H' b = none) E s1) E s
  done : ∀ (X : Cx), X.prog = P → X.w = w → X.K = K → X.calm = true → ∀ (i : Nat) (pins : List (Addr × Obj)) (s : Shared) (σ : St) (H : Hp) (E : Value → Shared → Prop), Inv X pins σ H s → (∀ b ∈ fp, FpOk X pins H b) → tn i s.heap → J.stop i H →
    wpAny (model P w) X.A (pyNext (.ref it)) (fun r s1 => r = none ∧ Inv X pins σ H s1) E s
  self : ∀ (A : Around) (i : Nat) (s : Shared) (Q : Value → Shared → Prop) (E : Value → Shared → Prop), tn i s.heap → Q (.ref it) s → wpAny (model P w) A (pyIter (.ref it)) Q E s
abbrev TI := St → Hp → (It → Hp → Prop) → Prop
/-- an iterator has come -/
def PIE (X : Cx) (pins : List (Addr × Obj)) (σ : St) (tg : Expr) (R : It → Hp → Prop) (itv : Value) (s2 : Shared) : Prop :=
  ∃ (it : Addr) (fp : List Addr) (tn : Nat → Heap → Prop) (J : It) (H' : Hp), itv = .ref it ∧ Inv X pins σ H' s2 ∧ Turn X.prog X.w X.K tg J fp it tn ∧ tn 0 s2.heap ∧ (∀ b ∈ fp, FpOk X pins H' b) ∧ R J H'
def PI (X : Cx) (tg iter : Expr) (wi : TI) : Prop :=
  ∀ (pins : List (Addr × Obj)) (s : Shared) (σ : St) (H : Hp) (R : It → Hp → Prop), Inv X pins σ H s → wi σ H R →
    wpAny (model X.prog X.w) X.A (eval iter X.env) (fun v s1 => wpAny (model X.prog X.w) X.A (pyIter v) (PIE X pins σ tg R) X.xe s1) X.xe s

/-- the step ahead of the store is nothing for an iterator that keeps no tuple -/
theorem go_of {M : Model} {A : Around} {E : Value → Shared → Prop} {s : Shared} {tg : Expr} {it : Addr} {u : Value} {o : Obj} {n : String} {vs : Array Value} {Q : Unit → Shared → Prop} (ho : s.heap.get? it = some o) (hc : o.cls = .type n) (hd : o.data = .fields vs)
    (hn : ["enumerate", "zip", "dict_itemiterator", "dict_reverseitemiterator", "odict_iterator", "itertools.zip_longest", "itertools.pairwise"].contains n = false) (hQ : Q () s) : wpAny M A (letOwnedTupleGo tg (.ref it) u) Q E s := by
  unfold letOwnedTupleGo
  cases tg <;> first
    | exact wpAny_pure hQ
    | (cases u <;> first
        | exact wpAny_pure hQ
        | (refine wpAny_bind (wpAny_load ho ?_)
           rw [hc, hd]
           show wpAny M A (if (["enumerate", "zip", "dict_itemiterator", "dict_reverseitemiterator", "odict_iterator", "itertools.zip_longest", "itertools.pairwise"].contains n && vs[0]? == some (rawInt _)) = true then _ else _) Q E s
           rw [if_neg (by intro h; rw [hn, Bool.false_and] at h; cases h)]
           exact wpAny_pure hQ))

/-- the list at a, as it stands at each turn (a loop may append to it) -/
def Itl (K : PySem.W.Frag) (a : Addr) : It :=
  ⟨fun i H => ∃ xs x, SqL K H a xs ∧ xs[i]? = some x, fun i H x H' => H' = H ∧ ∀ xs, SqL K H a xs → xs[i]? = some x, fun i H => ∃ xs, SqL K H a xs ∧ xs.length ≤ i⟩
def Itt (K : PySem.W.Frag) (a : Addr) : It :=
  ⟨fun i H => ∃ xs x, SqT K H a xs ∧ xs[i]? = some x, fun i H x H' => H' = H ∧ ∀ xs, SqT K H a xs → xs[i]? = some x, fun i H => ∃ xs, SqT K H a xs ∧ xs.length ≤ i⟩
/-- lo, lo + 1, .. (n of them) -/
def Itr (lo : Int) (n : Nat) : It := ⟨fun i _ => i < n, fun i H x H' => H' = H ∧ x = .int (lo + i), fun i _ => n ≤ i⟩
theorem turn_list {P : Program} {w : World} {K : PySem.W.Frag} {tg : Expr} (a it : Addr) : Turn P w K tg (Itl K a) [it] it (fun i h => h.IsListIter it a i) where
  mem := by simp
  obj := fun i h st b hb => by
    have e : b = it := by simpa using hb
    subst e
    obtain ⟨o, e, c, d⟩ := st
    exact ⟨o, e, fun v z => by rw [d] at z; cases z⟩
  keep := fun i h h' st k => st.at fun o e => k it (by simp) o e
  item := by
    intro X hP hw hK hc i pins s σ H E I hf st hg
    subst hP hw hK
    obtain ⟨xs, x, hq, hx⟩ := hg
    obtain ⟨its, rv, p, hz⟩ := I.list hq
    obtain ⟨u, hu, ru⟩ := rv.get hx
    obtain ⟨f0, f1, f2, f3, f4, f5⟩ := hf it (by simp)
    refine wpAny_pyNext_list_item st p.isList (x := u) (by simpa using hu) fun h' st' sb => ?_
    have I1 : Inv X pins σ H { s with heap := h' } := I.turned (t' := s.toks) (fun b o hb e => (sb.2 b hb).trans e) f0 f1 f3 f4 f5
    obtain ⟨o, e, c, d⟩ := id st'
    exact ⟨u, rfl, go_of (s := { s with heap := h' }) e c d (by decide) ⟨x, H, I1, ru, ⟨rfl, fun ys hy => by rw [I.list_inj hy hq]; exact hx⟩, st', fun b hb => (hf b hb).1⟩⟩
  done := by
    intro X hP hw hK hc i pins s σ H E I hf st hg
    subst hP hw hK
    obtain ⟨xs, hq, hx⟩ := hg
    obtain ⟨its, rv, p, hz⟩ := I.list hq
    obtain ⟨f0, f1, f2, f3, f4, f5⟩ := hf it (by simp)
    have hl := rv.length
    exact wpAny_pyNext_list_end (I.ok.hd hc) st p.isList (by simp; omega) fun h' eb => ⟨rfl, I.turned (t' := s.toks) (fun b o hb e => eb b o hb e) f0 f1 f3 f4 f5⟩
  self := fun _ _ _ _ _ st h => wpAny_pyIter_listiter st h
theorem turn_tuple {P : Program} {w : World} {K : PySem.W.Frag} {tg : Expr} (a it : Addr) : Turn P w K tg (Itt K a) [it] it (fun i h => h.IsTupleIter it a i) where
  mem := by simp
  obj := fun i h st b hb => by
    have e : b = it := by simpa using hb
    subst e
    obtain ⟨o, e, c, d⟩ := st
    exact ⟨o, e, fun v z => by rw [d] at z; cases z⟩
  keep := fun i h h' st k => st.at fun o e => k it (by simp) o e
  item := by
    intro X hP hw hK hc i pins s σ H E I hf st hg
    subst hP hw hK
    obtain ⟨xs, x, hq, hx⟩ := hg
    obtain ⟨its, rv, p, hz⟩ := I.tuple hq
    obtain ⟨u, hu, ru⟩ := rv.get hx
    obtain ⟨f0, f1, f2, f3, f4, f5⟩ := hf it (by simp)
    refine wpAny_pyNext_tuple_item st (show s.heap.IsTuple a its.toArray from p) (x := u) (by simpa using hu) fun h' st' sb => ?_
    have I1 : Inv X pins σ H { s with heap := h' } := I.turned (t' := s.toks) (fun b o hb e => (sb.2 b hb).trans e) f0 f1 f3 f4 f5
    obtain ⟨o, e, c, d⟩ := id st'
    exact ⟨u, rfl, go_of (s := { s with heap := h' }) e c d (by decide) ⟨x, H, I1, ru, ⟨rfl, fun ys hy => by rw [I.tuple_inj hy hq]; exact hx⟩, st', fun b hb => (hf b hb).1⟩⟩
  done := by
    intro X hP hw hK hc i pins s σ H E I hf st hg
    subst hP hw hK
    obtain ⟨xs, hq, hx⟩ := hg
    obtain ⟨its, rv, p, hz⟩ := I.tuple hq
    obtain ⟨f0, f1, f2, f3, f4, f5⟩ := hf it (by simp)
    have hl := rv.length
    exact wpAny_pyNext_tuple_end (I.ok.hd hc) st (show s.heap.IsTuple a its.toArray from p) (by simp; omega) fun h' eb => ⟨rfl, I.turned (t' := s.toks) (fun b o hb e => eb b o hb e) f0 f1 f3 f4 f5⟩
  self := fun _ _ _ _ _ st h => wpAny_pyIter_tupleiter st h
theorem turn_range {P : Program} {w : World} {K : PySem.W.Frag} {tg : Expr} (it : Addr) (lo : Int) (n : Nat) : Turn P w K tg (Itr lo n) [it] it (fun i h => IsRangeIter h it (lo + (i : Nat) * 1) ((n : Int) - (i : Nat)) 1) where
  mem := by simp
  obj := fun i h st b hb => by
    have e : b = it := by simpa using hb
    subst e
    exact ⟨_, st, fun v z => by
      have z' : Data.fields _ = Data.cell v := z
      cases z'⟩
  keep := fun i h h' st k => k it (by simp) _ st
  item := by
    intro X hP hw hK hc i pins s σ H E I hf st hg
    subst hP hw hK
    obtain ⟨f0, f1, f2, f3, f4, f5⟩ := hf it (by simp)
    have W := Walks.range (prog := X.prog) (w := X.w) (I.ok.hd hc) it lo 1 n
    refine W.item i s _ _ hg st fun v h' tk hv st' kk => ?_
    obtain ⟨t, rfl⟩ := hv
    have I1 : Inv X pins σ H { s with heap := h', toks := tk } := I.turned (fun b o hb e => kk b o (by simpa using hb) e) f0 f1 f3 f4 f5
    refine ⟨_, rfl, go_of (s := { s with heap := h', toks := tk }) (n := "range_iterator") st' rfl rfl (by decide) ⟨.int (lo + i), H, I1, ⟨t, ?_⟩, ⟨rfl, rfl⟩, st', fun b hb => (hf b hb).1⟩⟩
    rw [Int.mul_one]
  done := by
    intro X hP hw hK hc i pins s σ H E I hf st hg
    subst hP hw hK
    obtain ⟨f0, f1, f2, f3, f4, f5⟩ := hf it (by simp)
    exact wpAny_pyNext_range_end (I.ok.hd hc) st (by have : n ≤ i := hg; omega) fun h' eb => ⟨rfl, I.turned (t' := s.toks) (fun b o hb e => eb b o hb e) f0 f1 f3 f4 f5⟩
  self := fun _ _ _ _ _ st h => wpAny_pyIter_rangeiter st h
end L2

namespace L2
open PySem PySem.Spec PyProof.Rows
section
variable {X : Cx} {tg : Expr}
def iList (K : PySem.W.Frag) (tl : TE) : TI := fun σ H R => tl σ H fun x H1 => ∃ a, x = .ref a ∧ (∃ xs, SqL K H1 a xs) ∧ R (Itl K a) H1
def iTup (K : PySem.W.Frag) (tl : TE) : TI := fun σ H R => tl σ H fun x H1 => ∃ a, x = .ref a ∧ (∃ xs, SqT K H1 a xs) ∧ R (Itt K a) H1
theorem pi_list {l : Expr} {tl : TE} (hl : PE X l tl) : PI X tg l (iList X.K tl) := by
  intro pins s σ H R I h
  refine thn (hl pins s σ H _ I h) fun v s1 ⟨x, H1, I1, r1, q1⟩ => ?_
  obtain ⟨a, e, ⟨xs, hq⟩, q⟩ := q1
  subst e
  cases r1
  obtain ⟨its, rv, p, hz⟩ := I1.list hq
  refine wpAny_pyIter_list p.isList ?_
  refine ⟨s1.heap.objs.size, [s1.heap.objs.size], _, _, H1, rfl, I1.kept (t' := s1.toks) fun b o e => Heap.get?_push_of_some _ e, turn_list a _, ⟨_, Heap.get?_push_size _ rfl, rfl, rfl⟩, fun b hb => ?_, q⟩
  have e : b = s1.heap.objs.size := by simpa using hb
  subst e
  exact I1.fpOk (Nat.le_refl _) (I1.hok.fresh (Nat.le_refl _))
theorem pi_tup {l : Expr} {tl : TE} (hl : PE X l tl) : PI X tg l (iTup X.K tl) := by
  intro pins s σ H R I h
  refine thn (hl pins s σ H _ I h) fun v s1 ⟨x, H1, I1, r1, q1⟩ => ?_
  obtain ⟨a, e, ⟨xs, hq⟩, q⟩ := q1
  subst e
  cases r1
  obtain ⟨its, rv, p, hz⟩ := I1.tuple hq
  refine wpAny_pyIter_tuple (show s1.heap.IsTuple a its.toArray from p) ?_
  refine ⟨s1.heap.objs.size, [s1.heap.objs.size], _, _, H1, rfl, I1.kept (t' := s1.toks) fun b o e => Heap.get?_push_of_some _ e, turn_tuple a _, ⟨_, Heap.get?_push_size _ rfl, rfl, rfl⟩, fun b hb => ?_, q⟩
  have e : b = s1.heap.objs.size := by simpa using hb
  subst e
  exact I1.fpOk (Nat.le_refl _) (I1.hok.fresh (Nat.le_refl _))
/-- a range object just made, walked -/
theorem range_it {pins : List (Addr × Obj)} {σ : St} {H : Hp} {s : Shared} {R : It → Hp → Prop} {E : Value → Shared → Prop} {lo hi : Int} {t u v : Tok} {tk : Nat} (I : Inv X pins σ H s) (h1 : -(2 ^ 62) ≤ lo) (h2 : lo < 2 ^ 62) (h3 : -(2 ^ 62) ≤ hi) (h4 : hi < 2 ^ 62)
    (q : R (Itr lo (hi - lo).toNat) H) : wpAny (model X.prog X.w) X.A (pyIter (.ref s.heap.objs.size)) (PIE X pins σ tg R) E { s with heap := s.heap.push { cls := .type "range", data := .fields #[.int lo t, .int hi u, .int 1 v] }, toks := tk } := by
  refine wpAny_pyIter_range (IsRange.new ..) (small_one h1 h2 h3 h4) ?_
  have I1 : Inv X pins σ H { s with heap := s.heap.push { cls := .type "range", data := .fields #[.int lo t, .int hi u, .int 1 v] }, toks := tk } := I.kept fun b o e => Heap.get?_push_of_some _ e
  refine ⟨(s.heap.push { cls := .type "range", data := .fields #[.int lo t, .int hi u, .int 1 v] }).objs.size, [(s.heap.push { cls := .type "range", data := .fields #[.int lo t, .int hi u, .int 1 v] }).objs.size], _, _, H, rfl,
    I1.kept (t' := tk) fun b o e => Heap.get?_push_of_some _ e, turn_range _ lo (hi - lo).toNat, ?_, fun b hb => ?_, q⟩
  · have e1 : lo + ((0 : Nat) : Int) * 1 = lo := by simp
    have e2 : (((hi - lo).toNat : Nat) : Int) - ((0 : Nat) : Int) = Builtin.Range.rangeSize lo hi 1 := by rw [rangeSize_one]; split <;> omega
    show IsRangeIter _ _ (lo + ((0 : Nat) : Int) * 1) ((((hi - lo).toNat : Nat) : Int) - ((0 : Nat) : Int)) 1
    rw [e1, e2]
    exact Heap.get?_push_size _ rfl
  · have e : b = (s.heap.push { cls := .type "range", data := .fields #[.int lo t, .int hi u, .int 1 v] }).objs.size := by simpa using hb
    subst e
    exact I1.fpOk (Nat.le_refl _) (I1.hok.fresh (Nat.le_refl _))
def iRng1 (ta : TA) : TI := fun σ H R => ta σ H fun vs H1 => ∃ j : Int, vs = [.int j] ∧ -(2 ^ 62) ≤ j ∧ j < 2 ^ 62 ∧ R (Itr 0 j.toNat) H1
theorem pi_range1 {a : Expr} {ta : TA} {p pos : Pos} (hg : Gl X "range") (hm : X.mg "range" = none) (ha : PA X [a] ta) (hs : starEach [a] X.env = [(false, eval a X.env)] := by rfl) : PI X tg (.Call (.Name "range" p) [a] [] pos) (iRng1 ta) := by
  intro pins s σ H R I h
  refine Call_ (ld_blt I hg hm boot_range (PyProof.Rows.callWith_type1 (thn (ha pos pins s σ H _ I h) fun us s1 ⟨vs, H1, I1, r1, q1⟩ => ?_) hs rfl))
  obtain ⟨j, e, q1, q2, q⟩ := q1
  subst e
  cases r1 with
  | cons r rr =>
    cases rr
    obtain ⟨t, rfl⟩ := r
    exact call_range_1 (range_it I1 (by omega) (by omega) q1 q2 (by simpa using q))
/-- W: the invariant by the turn and a measure; N: what the body is to reach -/
def tFor (wi : TI) (g : TG) (tb : TS) : TS := fun D σ H => wi σ H fun J H1 => ∃ W : Nat → Nat → St → Hp → Prop, (∃ m, W 0 m σ H1) ∧ ∀ i m σ H, W i m σ H →
  (J.stop i H ∧ D.nx σ H) ∨ (J.go i H ∧ ∃ N : St → Hp → Prop, (∀ σ' H', N σ' H' → ∃ m', m' < m ∧ W (i + 1) m' σ' H') ∧ ∀ x H', J.yld i H x H' → g x σ H' fun σ2 H2 => tb { D with nx := N, ct := N, bk := D.nx } σ2 H2)
/-- the records at fp as they stand -/
def pinsAt (fp : List Addr) (h : Heap) : List (Addr × Obj) := fp.filterMap fun b => (h.get? b).map fun o => (b, o)
theorem mem_pinsAt {fp : List Addr} {h : Heap} {b : Addr} {o : Obj} (hb : b ∈ fp) (e : h.get? b = some o) : (b, o) ∈ pinsAt fp h := List.mem_filterMap.mpr ⟨b, hb, by rw [e]; rfl⟩
theorem of_pinsAt {fp : List Addr} {h : Heap} {p : Addr × Obj} (hp : p ∈ pinsAt fp h) : p.1 ∈ fp ∧ h.get? p.1 = some p.2 := by
  obtain ⟨b, hb, e⟩ := List.mem_filterMap.mp hp
  cases q : h.get? b with
  | none => rw [q] at e; cases e
  | some o =>
    rw [q] at e
    have e' : (b, o) = p := Option.some.inj e
    subst e'
    exact ⟨hb, q⟩
theorem Inv.pinned {pins : List (Addr × Obj)} {σ : St} {H : Hp} {s : Shared} {fp : List Addr} (I : Inv X pins σ H s) (hf : ∀ b ∈ fp, FpOk X pins H b) (ho : ∀ b ∈ fp, ∃ o, s.heap.get? b = some o ∧ ∀ v, o.data ≠ .cell v) : Inv X (pins ++ pinsAt fp s.heap) σ H s :=
  I.pins_of fun p hp => (List.mem_append.mp hp).elim (fun z => I.pin p (List.mem_append_right _ z)) fun z => by
    obtain ⟨hb, e⟩ := of_pinsAt z
    obtain ⟨f0, f1, f2, _⟩ := hf p.1 hb
    obtain ⟨o, e', d⟩ := ho p.1 hb
    rw [e] at e'; cases e'
    exact ⟨e, f0, f1, f2, d⟩
theorem Inv.unpinned {pins pl : List (Addr × Obj)} {σ : St} {H : Hp} {s : Shared} (I : Inv X (pins ++ pl) σ H s) : Inv X pins σ H s := I.pins_of fun p hp => I.pin p (List.mem_append_right _ (List.mem_append_left _ hp))
theorem ps_for {iter : Expr} {body : List Stmt} {wi : TI} {g : TG} {tb : TS} {pos : Pos} (hp : PassesOwn (model X.prog X.w) X.A X.env X.xe) (hc : X.calm = true) (hi : PI X tg iter wi) (hg : PG X tg g) (hb : PSs X body tb)
    (hs : ∀ x, foldedSetIterable iter X.env x = pure x := by intro _; rfl) : PS X (.For tg iter body [] pos) (tFor wi g tb) := by
  intro pins s σ H D I h
  refine wpAny_For (thn (hi pins s σ H _ I h) fun v s1 h1 => thn h1 fun itv s2 h2 => ?_) hs
  obtain ⟨it, fp, tn, J, H2, e, I2, T, st2, f2, W, ⟨m0, w0⟩, turn⟩ := h2
  subst e
  -- what stays true of the iterator's objects through the loop
  have stat : ∀ {H' : Hp}, (∀ b ∈ fp, H' b = none) → ∀ b ∈ fp, FpOk X pins H' b := fun hn b hb => ⟨hn b hb, (f2 b hb).2⟩
  refine codeAny_forLoop_any (fun n s' => ∃ i σ' H', Inv X pins σ' H' s' ∧ tn i s'.heap ∧ (∀ b ∈ fp, H' b = none) ∧ W i n σ' H') ?_ m0 ⟨0, σ, H2, I2, st2, fun b hb => (f2 b hb).1, w0⟩
  rintro n s3 ⟨i, σ3, H3, I3, st3, fr3, w3⟩
  rcases turn i n σ3 H3 w3 with ⟨stop, qn⟩ | ⟨go, N, hN, step⟩
  · refine wpAny_passesOwn hp (thn (T.done X rfl rfl rfl hc i pins s3 σ3 H3 X.xe I3 (stat fr3) st3 stop) fun r s4 ⟨hr, I4⟩ => ?_)
    subst hr
    exact wpAny_execs_nil ⟨σ3, H3, I4, qn⟩
  · refine wpAny_passesOwn hp (thn (T.item X rfl rfl rfl hc i pins s3 σ3 H3 X.xe I3 (stat fr3) st3 go) fun r s4 ⟨u, hr, h4⟩ => ?_)
    subst hr
    refine wpAny_passesOwn hp (thn h4 fun _ s5 ⟨x, H5, I5, r5, y5, st5, fr5⟩ => ?_)
    have I5' := I5.pinned (stat fr5) (T.obj _ _ st5)
    refine wpAny_passesOwn hp (thn (hg _ s5 σ3 H5 x u _ I5' r5 (step x H5 y5)) fun _ s6 ⟨σ6, H6, I6, q6⟩ => ?_)
    refine wpAny_passesOwn hp (thn (hb _ s6 σ6 H6 _ I6 q6) fun f s7 q7 => ?_)
    have again : ∀ {σ7 : St} {H7 : Hp}, Inv X (pins ++ pinsAt fp s5.heap) σ7 H7 s7 → N σ7 H7 → ∃ m, m < n ∧ ∃ i σ' H', Inv X pins σ' H' s7 ∧ tn i s7.heap ∧ (∀ b ∈ fp, H' b = none) ∧ W i m σ' H' := fun {σ7 H7} I7 n7 => by
      obtain ⟨m', hm, w7⟩ := hN σ7 H7 n7
      refine ⟨m', hm, i + 1, σ7, H7, I7.unpinned, T.keep _ _ _ st5 fun b hb o e => (I7.pin (b, o) (List.mem_append_right _ (List.mem_append_right _ (mem_pinsAt hb e)))).1, fun b hb => ?_, w7⟩
      obtain ⟨o, e, d⟩ := T.obj _ _ st5 b hb
      exact (I7.pin (b, o) (List.mem_append_right _ (List.mem_append_right _ (mem_pinsAt hb e)))).2.1
    cases f with
    | next => obtain ⟨σ7, H7, I7, n7⟩ := q7; exact again I7 n7
    | cont => obtain ⟨σ7, H7, I7, n7⟩ := q7; exact again I7 n7
    | brk => obtain ⟨σ7, H7, I7, q7⟩ := q7; exact ⟨σ7, H7, I7.unpinned, q7⟩
    | ret v => obtain ⟨x7, σ7, H7, I7, r7, q7⟩ := q7; exact ⟨x7, σ7, H7, I7.unpinned, r7, q7⟩
end

/-- over a list that the body leaves as it is -/
theorem for_list {K : PySem.W.Frag} {a : Addr} {xs : List V} {g : TG} {tb : TS} {D : Ends} {σ : St} {H : Hp} (Pv : Nat → St → Hp → Prop) (h0 : Pv 0 σ H) (hl : ∀ i σ H, i ≤ xs.length → Pv i σ H → SqL K H a xs)
    (hs : ∀ i x σ H, xs[i]? = some x → Pv i σ H → g x σ H fun σ2 H2 => tb { D with nx := Pv (i + 1), ct := Pv (i + 1), bk := D.nx } σ2 H2) (hd : ∀ σ H, Pv xs.length σ H → D.nx σ H) :
    ∃ W : Nat → Nat → St → Hp → Prop, (∃ m, W 0 m σ H) ∧ ∀ i m σ H, W i m σ H →
      ((Itl K a).stop i H ∧ D.nx σ H) ∨ ((Itl K a).go i H ∧ ∃ N : St → Hp → Prop, (∀ σ' H', N σ' H' → ∃ m', m' < m ∧ W (i + 1) m' σ' H') ∧ ∀ x H', (Itl K a).yld i H x H' → g x σ H' fun σ2 H2 => tb { D with nx := N, ct := N, bk := D.nx } σ2 H2) := by
  refine ⟨fun i m σ H => m = xs.length - i ∧ i ≤ xs.length ∧ Pv i σ H, ⟨xs.length, by simp, Nat.zero_le _, h0⟩, ?_⟩
  rintro i m σ H ⟨rfl, hi, p⟩
  have q := hl i σ H hi p
  by_cases hlt : i < xs.length
  · refine .inr ⟨⟨xs, xs[i], q, by simp [hlt]⟩, Pv (i + 1), fun σ' H' p' => ⟨xs.length - (i + 1), by omega, rfl, hlt, p'⟩, fun x H' y => ?_⟩
    obtain ⟨e, y⟩ := y
    subst e
    exact hs i x σ _ (y xs q) p
  · have e : i = xs.length := by omega
    subst e
    exact .inl ⟨⟨xs, q, Nat.le_refl _⟩, hd σ H p⟩
theorem for_tup {K : PySem.W.Frag} {a : Addr} {xs : List V} {g : TG} {tb : TS} {D : Ends} {σ : St} {H : Hp} (Pv : Nat → St → Hp → Prop) (h0 : Pv 0 σ H) (hl : ∀ i σ H, i ≤ xs.length → Pv i σ H → SqT K H a xs)
    (hs : ∀ i x σ H, xs[i]? = some x → Pv i σ H → g x σ H fun σ2 H2 => tb { D with nx := Pv (i + 1), ct := Pv (i + 1), bk := D.nx } σ2 H2) (hd : ∀ σ H, Pv xs.length σ H → D.nx σ H) :
    ∃ W : Nat → Nat → St → Hp → Prop, (∃ m, W 0 m σ H) ∧ ∀ i m σ H, W i m σ H →
      ((Itt K a).stop i H ∧ D.nx σ H) ∨ ((Itt K a).go i H ∧ ∃ N : St → Hp → Prop, (∀ σ' H', N σ' H' → ∃ m', m' < m ∧ W (i + 1) m' σ' H') ∧ ∀ x H', (Itt K a).yld i H x H' → g x σ H' fun σ2 H2 => tb { D with nx := N, ct := N, bk := D.nx } σ2 H2) := by
  refine ⟨fun i m σ H => m = xs.length - i ∧ i ≤ xs.length ∧ Pv i σ H, ⟨xs.length, by simp, Nat.zero_le _, h0⟩, ?_⟩
  rintro i m σ H ⟨rfl, hi, p⟩
  have q := hl i σ H hi p
  by_cases hlt : i < xs.length
  · refine .inr ⟨⟨xs, xs[i], q, by simp [hlt]⟩, Pv (i + 1), fun σ' H' p' => ⟨xs.length - (i + 1), by omega, rfl, hlt, p'⟩, fun x H' y => ?_⟩
    obtain ⟨e, y⟩ := y
    subst e
    exact hs i x σ _ (y xs q) p
  · have e : i = xs.length := by omega
    subst e
    exact .inl ⟨⟨xs, q, Nat.le_refl _⟩, hd σ H p⟩
theorem for_range {lo : Int} {n : Nat} {g : TG} {tb : TS} {D : Ends} {σ : St} {H : Hp} (Pv : Nat → St → Hp → Prop) (h0 : Pv 0 σ H)
    (hs : ∀ i σ H, i < n → Pv i σ H → g (.int (lo + i)) σ H fun σ2 H2 => tb { D with nx := Pv (i + 1), ct := Pv (i + 1), bk := D.nx } σ2 H2) (hd : ∀ σ H, Pv n σ H → D.nx σ H) :
    ∃ W : Nat → Nat → St → Hp → Prop, (∃ m, W 0 m σ H) ∧ ∀ i m σ H, W i m σ H →
      ((Itr lo n).stop i H ∧ D.nx σ H) ∨ ((Itr lo n).go i H ∧ ∃ N : St → Hp → Prop, (∀ σ' H', N σ' H' → ∃ m', m' < m ∧ W (i + 1) m' σ' H') ∧ ∀ x H', (Itr lo n).yld i H x H' → g x σ H' fun σ2 H2 => tb { D with nx := N, ct := N, bk := D.nx } σ2 H2) := by
  refine ⟨fun i m σ H => m = n - i ∧ i ≤ n ∧ Pv i σ H, ⟨n, by simp, Nat.zero_le _, h0⟩, ?_⟩
  rintro i m σ H ⟨rfl, hi, p⟩
  by_cases hlt : i < n
  · refine .inr ⟨hlt, Pv (i + 1), fun σ' H' p' => ⟨n - (i + 1), by omega, rfl, hlt, p'⟩, fun x H' y => ?_⟩
    obtain ⟨e, y⟩ := y
    subst e y
    exact hs i σ _ hlt p
  · have e : i = n := by omega
    subst e
    exact .inl ⟨Nat.le_refl _, hd σ H p⟩
/-- while, by a word and a measure of the state -/
theorem while_by {c : TT} {tb : TS} {D : Ends} {σ : St} {H : Hp} (Pv : St → Hp → Prop) (μ : St → Hp → Nat) (h0 : Pv σ H)
    (hs : ∀ σ H, Pv σ H → c σ H fun b H1 => if b = true then tb { D with nx := fun σ' H' => Pv σ' H' ∧ μ σ' H' < μ σ H, ct := fun σ' H' => Pv σ' H' ∧ μ σ' H' < μ σ H, bk := D.nx } σ H1 else D.nx σ H1)
    (mono : ∀ σ H Q Q', (∀ b H1, Q b H1 → Q' b H1) → c σ H Q → c σ H Q') : tWhile c tb D σ H := by
  refine ⟨fun m σ H => m = μ σ H ∧ Pv σ H, ⟨_, rfl, h0⟩, ?_⟩
  rintro m σ H ⟨rfl, p⟩
  refine mono σ H _ _ (fun b H1 q => ?_) (hs σ H p)
  cases b with
  | true => exact ⟨_, fun σ' H' ⟨p', l⟩ => ⟨_, l, rfl, p'⟩, q⟩
  | false => exact q
end L2

namespace L2
open PySem PySem.Spec PyProof.Rows

abbrev R2 := V → V → Hp → VK → Prop
/-- a two-place operation on values: f is binaryOp op, inplaceOp op or compareOp op -/
def OpR (X : Cx) (f : Value → Value → Sem Value) (r : R2) : Prop :=
  ∀ (pins : List (Addr × Obj)) (s : Shared) (σ : St) (H : Hp) (x y : V) (v u : Value) (Q : VK), Inv X pins σ H s → RelV x v → RelV y u → r x y H Q →
    wpAny (model X.prog X.w) X.A (f v u) (EP X pins σ Q) X.xe s
/-- a one-place operation -/
def UnR (X : Cx) (f : Value → Sem Value) (r : V → Hp → VK → Prop) : Prop :=
  ∀ (pins : List (Addr × Obj)) (s : Shared) (σ : St) (H : Hp) (x : V) (v : Value) (Q : VK), Inv X pins σ H s → RelV x v → r x H Q →
    wpAny (model X.prog X.w) X.A (f v) (EP X pins σ Q) X.xe s
/-- a call of a value that is known (a builtin, a type) with values -/
def CallR (X : Cx) (f : Value) (r : List V → Hp → VK → Prop) : Prop :=
  ∀ (pins : List (Addr × Obj)) (s : Shared) (σ : St) (H : Hp) (xs : List V) (us : List Value) (Q : VK), Inv X pins σ H s → Vals xs us → r xs H Q →
    wpAny (model X.prog X.w) X.A (call f us) (EP X pins σ Q) X.xe s
def tOp (r : R2) (ta tb : TE) : TE := fun σ H Q => ta σ H fun x H1 => tb σ H1 fun y H2 => r x y H2 Q
def tUn (r : V → Hp → VK → Prop) (ta : TE) : TE := fun σ H Q => ta σ H fun x H1 => r x H1 Q
/-- ints in, under C, and a value out -/
def rI (C : Int → Int → Prop) (g : Int → Int → V) : R2 := fun x y H Q => ∃ i j, x = .int i ∧ y = .int j ∧ C i j ∧ Q (g i j) H
def rI0 (g : Int → Int → V) : R2 := fun x y H Q => ∃ i j, x = .int i ∧ y = .int j ∧ Q (g i j) H
def rU (g : Int → V) : V → Hp → VK → Prop := fun x H Q => ∃ i, x = .int i ∧ Q (g i) H

section
variable {X : Cx} {a b c : Expr} {ta tb tc : TE} {pos : Pos}

theorem binT (ha : PE X a ta) (hb : PE X b tb) {pins : List (Addr × Obj)} {s : Shared} {σ : St} {H : Hp} {R : V → V → Hp → Prop} (I : Inv X pins σ H s)
    (h : ta σ H fun x H1 => tb σ H1 fun y H2 => R x y H2) {Q : Value → Shared → Prop} {f : Value → Value → Sem Value}
    (hf : ∀ v u s2 x y H2, Inv X pins σ H2 s2 → RelV x v → RelV y u → R x y H2 → wpAny (model X.prog X.w) X.A (f v u) Q X.xe s2) :
    wpAny (model X.prog X.w) X.A (eval a X.env) (fun v s₁ => wpAny (model X.prog X.w) X.A (eval b X.env) (fun u s₂ => wpAny (model X.prog X.w) X.A (f v u) Q X.xe s₂) X.xe s₁) X.xe s := by
  refine thn (ha pins s σ H _ I h) fun v s1 ⟨x, H1, I1, r1, q1⟩ => ?_
  refine thn (hb pins s1 σ H1 _ I1 q1) fun u s2 ⟨y, H2, I2, r2, q2⟩ => ?_
  exact hf v u s2 x y H2 I2 r1 r2 q2

theorem pe_op {op : Operator} {r : R2} (ho : OpR X (binaryOp op) r) (ha : PE X a ta) (hb : PE X b tb) : PE X (.BinOp a op b pos) (tOp r ta tb) := by
  intro pins s σ H Q I h
  exact wpAny_BinOp (binT ha hb I h fun v u s2 x y H2 I2 rx ry q => ho pins s2 σ H2 x y v u Q I2 rx ry q)
theorem pe_un {op : UnaryOp} {r : V → Hp → VK → Prop} (ho : UnR X (unaryOp op) r) (ha : PE X a ta) : PE X (.UnaryOp op a pos) (tUn r ta) := by
  intro pins s σ H Q I h
  exact UnaryOp_ (thn (ha pins s σ H _ I h) fun v s1 ⟨x, H1, I1, r1, q1⟩ => ho pins s1 σ H1 x v Q I1 r1 q1)
theorem opI {f : Value → Value → Sem Value} {C : Int → Int → Prop} {g : Int → Int → Int}
    (rule : ∀ (i j : Int) (t u : Tok) (s : Shared) (Q : Value → Shared → Prop) (E : Value → Shared → Prop), C i j → Q (.int (g i j) s.toks) { s with toks := s.toks + 1 } → wpAny (model X.prog X.w) X.A (f (.int i t) (.int j u)) Q E s) :
    OpR X f (rI C fun i j => .int (g i j)) := by
  intro pins s σ H x y v u Q I rx ry h
  obtain ⟨i, j, rfl, rfl, hc, q⟩ := h
  obtain ⟨t, rfl⟩ := rx
  obtain ⟨t', rfl⟩ := ry
  exact rule i j t t' s _ _ hc ⟨.int (g i j), H, I.tok _, ⟨_, rfl⟩, q⟩
theorem opI0 {f : Value → Value → Sem Value} {g : Int → Int → Int}
    (rule : ∀ (i j : Int) (t u : Tok) (s : Shared) (Q : Value → Shared → Prop) (E : Value → Shared → Prop), Q (.int (g i j) s.toks) { s with toks := s.toks + 1 } → wpAny (model X.prog X.w) X.A (f (.int i t) (.int j u)) Q E s) :
    OpR X f (rI0 fun i j => .int (g i j)) := by
  intro pins s σ H x y v u Q I rx ry h
  obtain ⟨i, j, rfl, rfl, q⟩ := h
  obtain ⟨t, rfl⟩ := rx
  obtain ⟨t', rfl⟩ := ry
  exact rule i j t t' s _ _ ⟨.int (g i j), H, I.tok _, ⟨_, rfl⟩, q⟩
theorem opB0 {f : Value → Value → Sem Value} {g : Int → Int → Bool}
    (rule : ∀ (i j : Int) (t u : Tok) (s : Shared) (Q : Value → Shared → Prop) (E : Value → Shared → Prop), Q (.bool (g i j)) s → wpAny (model X.prog X.w) X.A (f (.int i t) (.int j u)) Q E s) :
    OpR X f (rI0 fun i j => .bl (g i j)) := by
  intro pins s σ H x y v u Q I rx ry h
  obtain ⟨i, j, rfl, rfl, q⟩ := h
  obtain ⟨t, rfl⟩ := rx
  obtain ⟨t', rfl⟩ := ry
  exact rule i j t t' s _ _ ⟨.bl (g i j), H, I, rfl, q⟩

def CDiv (i j : Int) : Prop := 0 < j ∧ j < 1073741824
def CPow (i j : Int) : Prop := 0 ≤ j ∧ j ≤ 1000000 ∧ i.natAbs < 2 ^ 64
def CMul (i j : Int) : Prop := (-(2 ^ 64) < i ∧ i < 2 ^ 64) ∨ (-(2 ^ 64) < j ∧ j < 2 ^ 64)
theorem CMul.ok {i j : Int} (h : CMul i j) : IntMulOk i j := by
  rcases h with ⟨h1, h2⟩ | ⟨h1, h2⟩
  · exact .of_left (intBits_le_64 h1 h2)
  · exact .of_right (intBits_le_64 h1 h2)
theorem op_add : OpR X (binaryOp .Add) (rI0 fun i j => .int (i + j)) := opI0 fun _ _ _ _ _ _ _ q => add_int q
theorem op_mul : OpR X (binaryOp .Mult) (rI CMul fun i j => .int (i * j)) := opI fun _ _ _ _ _ _ _ hc q => mul_int q hc.ok
/-- // by a positive divisor -/
theorem op_fdiv : OpR X (binaryOp .FloorDiv) (rI CDiv fun i j => .int (i / j)) := opI fun i j _ _ _ _ _ hc q => by
  have h1 : (0 : Int) < j := hc.1
  have h2 : j < 1073741824 := hc.2
  exact floordiv_int (by omega) (by rw [Int.fdiv_eq_ediv_of_nonneg i (by omega)]; exact q) (.inl (PyProof.noPylong_small (by omega)))
/-- % by a positive divisor of any size -/
theorem op_mod : OpR X (binaryOp .Mod) (rI (fun _ j => 0 < j) fun i j => .int (i % j)) := opI fun i j _ _ _ _ _ hc q => by
  have h1 : (0 : Int) < j := hc
  exact mod_int' (by omega) (by rw [Int.fmod_eq_emod_of_nonneg i (by omega)]; exact q)
theorem op_pow : OpR X (binaryOp .Pow) (rI CPow fun i j => .int (i ^ j.toNat)) := opI fun _ _ _ _ _ _ _ hc q => pow_int_small hc.1 hc.2.1 hc.2.2 q
theorem op_shl : OpR X (binaryOp .LShift) (rI CPow fun i j => .int (i * 2 ^ j.toNat)) := opI fun _ _ _ _ _ _ _ hc q => lshift_int_small hc.1 hc.2.1 hc.2.2 q
theorem unI {f : Value → Sem Value} {g : Int → Int}
    (rule : ∀ (i : Int) (t : Tok) (s : Shared) (Q : Value → Shared → Prop) (E : Value → Shared → Prop), Q (.int (g i) s.toks) { s with toks := s.toks + 1 } → wpAny (model X.prog X.w) X.A (f (.int i t)) Q E s) :
    UnR X f (rU fun i => .int (g i)) := by
  intro pins s σ H x v Q I rx h
  obtain ⟨i, rfl, q⟩ := h
  obtain ⟨t, rfl⟩ := rx
  exact rule i t s _ _ ⟨.int (g i), H, I.tok _, ⟨_, rfl⟩, q⟩
theorem un_neg : UnR X (unaryOp .USub) (rU fun i => .int (-i)) := unI fun _ _ _ _ _ q => neg_int q
end

/-- the scalars that == tells apart as data does -/
def scal : V → V → Bool
  | .non, .non => true | .non, .int _ => true | .int _, .non => true | .non, .bl _ => true | .bl _, .non => true | .non, .str _ => true | .str _, .non => true
  | .int _, .int _ => true | .bl _, .bl _ => true | .str _, .str _ => true | .byt _, .byt _ => true
  | .int _, .str _ => true | .str _, .int _ => true | .bl _, .str _ => true | .str _, .bl _ => true
  | _, _ => false
def rEq : R2 := fun x y H Q => scal x y = true ∧ Q (.bl (decide (x = y))) H
def rNe : R2 := fun x y H Q => scal x y = true ∧ Q (.bl (!decide (x = y))) H

theorem dec_int {i j : Int} : decide (V.int i = V.int j) = (i == j) := by
  rw [Bool.eq_iff_iff]
  simp
theorem dec_bl {i j : Bool} : decide (V.bl i = V.bl j) = (i == j) := by
  rw [Bool.eq_iff_iff]
  simp
theorem dec_str {i j : Str} : decide (V.str i = V.str j) = (i == j) := by
  rw [Bool.eq_iff_iff]
  simp
theorem dec_byt {i j : Array UInt8} : decide (V.byt i = V.byt j) = (i.toList == j.toList) := by
  rw [Bool.eq_iff_iff]
  cases i
  cases j
  simp

section
variable {X : Cx} {a b c : Expr} {ta tb tc : TE} {pos : Pos}
theorem fin_bl {pins : List (Addr × Obj)} {σ : St} {H : Hp} {s : Shared} {Q : VK} {k k' : Bool} (I : Inv X pins σ H s) (q : Q (.bl k) H) (e : k = k') : EP X pins σ Q (.bool k') s := by
  subst e
  exact ⟨.bl k, H, I, rfl, q⟩
theorem op_eq : OpR X (compareOp .Eq) rEq := by
  intro pins s σ H x y v u Q I rx ry h
  obtain ⟨hs, q⟩ := h
  cases x with
  | non =>
    cases rx
    cases y with
    | non => cases ry; exact PySem.EqNone.eq_none_none (fin_bl I q (by simp))
    | bl j => cases ry; exact PySem.EqNone.eq_none_bool (fin_bl I q (by simp))
    | int j => obtain ⟨t', rfl⟩ := ry; exact PySem.EqNone.eq_none_int (fin_bl I q (by simp))
    | str j => obtain ⟨t', rfl⟩ := ry; exact PySem.EqNone.eq_none_str (fin_bl I q (by simp))
    | _ => exact absurd (show false = true from hs) Bool.false_ne_true
  | bl i =>
    cases rx
    cases y with
    | non => cases ry; exact PySem.EqNone.eq_bool_none (fin_bl I q (by simp))
    | bl j => cases ry; exact eq_bool (fin_bl I q dec_bl)
    | str j => obtain ⟨t', rfl⟩ := ry; exact PySem.EqMixed.eq_bool_str (fin_bl I q (by simp))
    | _ => exact absurd (show false = true from hs) Bool.false_ne_true
  | int i =>
    obtain ⟨t, rfl⟩ := rx
    cases y with
    | non => cases ry; exact PySem.EqNone.eq_int_none (fin_bl I q (by simp))
    | int j => obtain ⟨t', rfl⟩ := ry; exact eq_int (fin_bl I q dec_int)
    | str j => obtain ⟨t', rfl⟩ := ry; exact PySem.EqMixed.eq_int_str (fin_bl I q (by simp))
    | _ => exact absurd (show false = true from hs) Bool.false_ne_true
  | str i =>
    obtain ⟨t, rfl⟩ := rx
    cases y with
    | non => cases ry; exact PySem.EqNone.eq_str_none (fin_bl I q (by simp))
    | bl j => cases ry; exact PySem.EqMixed.eq_str_bool (fin_bl I q (by simp))
    | int j => obtain ⟨t', rfl⟩ := ry; exact PySem.EqMixed.eq_str_int (fin_bl I q (by simp))
    | str j => obtain ⟨t', rfl⟩ := ry; exact eq_str (fin_bl I q dec_str)
    | _ => exact absurd (show false = true from hs) Bool.false_ne_true
  | byt i =>
    obtain ⟨t, rfl⟩ := rx
    cases y with
    | byt j => obtain ⟨t', rfl⟩ := ry; exact PySem.W.eq_bytes (fin_bl I q dec_byt)
    | _ => exact absurd (show false = true from hs) Bool.false_ne_true
  | _ => cases y <;> exact absurd (show false = true from hs) Bool.false_ne_true
theorem op_ne : OpR X (compareOp .NotEq) rNe := by
  intro pins s σ H x y v u Q I rx ry h
  obtain ⟨hs, q⟩ := h
  cases x with
  | non =>
    cases rx
    cases y with
    | non => cases ry; exact PySem.EqNone.ne_none_none (fin_bl I q (by simp))
    | bl j => cases ry; exact PySem.EqNone.ne_none_bool (fin_bl I q (by simp))
    | int j => obtain ⟨t', rfl⟩ := ry; exact PySem.EqNone.ne_none_int (fin_bl I q (by simp))
    | str j => obtain ⟨t', rfl⟩ := ry; exact PySem.EqNone.ne_none_str (fin_bl I q (by simp))
    | _ => exact absurd (show false = true from hs) Bool.false_ne_true
  | bl i =>
    cases rx
    cases y with
    | non => cases ry; exact PySem.EqNone.ne_bool_none (fin_bl I q (by simp))
    | bl j => cases ry; exact ne_bool (fin_bl I q (congrArg not dec_bl))
    | str j => obtain ⟨t', rfl⟩ := ry; exact PySem.EqMixed.ne_bool_str (fin_bl I q (by simp))
    | _ => exact absurd (show false = true from hs) Bool.false_ne_true
  | int i =>
    obtain ⟨t, rfl⟩ := rx
    cases y with
    | non => cases ry; exact PySem.EqNone.ne_int_none (fin_bl I q (by simp))
    | int j => obtain ⟨t', rfl⟩ := ry; exact ne_int (fin_bl I q (congrArg not dec_int))
    | str j => obtain ⟨t', rfl⟩ := ry; exact PySem.EqMixed.ne_int_str (fin_bl I q (by simp))
    | _ => exact absurd (show false = true from hs) Bool.false_ne_true
  | str i =>
    obtain ⟨t, rfl⟩ := rx
    cases y with
    | non => cases ry; exact PySem.EqNone.ne_str_none (fin_bl I q (by simp))
    | bl j => cases ry; exact PySem.EqMixed.ne_str_bool (fin_bl I q (by simp))
    | int j => obtain ⟨t', rfl⟩ := ry; exact PySem.EqMixed.ne_str_int (fin_bl I q (by simp))
    | str j => obtain ⟨t', rfl⟩ := ry; exact ne_str (fin_bl I q (congrArg not dec_str))
    | _ => exact absurd (show false = true from hs) Bool.false_ne_true
  | byt i =>
    obtain ⟨t, rfl⟩ := rx
    cases y with
    | byt j => obtain ⟨t', rfl⟩ := ry; exact PySem.W.ne_bytes (fin_bl I q (congrArg not dec_byt))
    | _ => exact absurd (show false = true from hs) Bool.false_ne_true
  | _ => cases y <;> exact absurd (show false = true from hs) Bool.false_ne_true

theorem op_le : OpR X (compareOp .LtE) (rI0 fun i j => .bl (decide (i ≤ j))) := opB0 fun _ _ _ _ _ _ _ q => le_int q
theorem op_gt : OpR X (compareOp .Gt) (rI0 fun i j => .bl (decide (j < i))) := opB0 fun _ _ _ _ _ _ _ q => gt_int q
theorem op_ge : OpR X (compareOp .GtE) (rI0 fun i j => .bl (decide (j ≤ i))) := opB0 fun _ _ _ _ _ _ _ q => ge_int q
/-- the one string within the other -/
theorem op_in_str : OpR X (compareOp .In) (fun x y H Q => ∃ i j, x = .str i ∧ y = .str j ∧ Q (.bl (!(Builtin.Str.occurrences j i 0 j.length 1).isEmpty)) H) := by
  intro pins s σ H x y v u Q I rx ry h
  obtain ⟨i, j, rfl, rfl, q⟩ := h
  obtain ⟨t, rfl⟩ := rx
  obtain ⟨t', rfl⟩ := ry
  exact in_str (fin_bl I q rfl)

/-- two rules for one operation: by cases -/
theorem OpR.or {f : Value → Value → Sem Value} {r r' : R2} (h : OpR X f r) (h' : OpR X f r') : OpR X f (fun x y H Q => r x y H Q ∨ r' x y H Q) := by
  intro pins s σ H x y v u Q I rx ry q
  rcases q with q | q
  · exact h pins s σ H x y v u Q I rx ry q
  · exact h' pins s σ H x y v u Q I rx ry q

theorem nomark (b : Expr) {op : CmpOp} (h : op ≠ .In := by decide) (h2 : op ≠ .NotIn := by decide) : behindInMarks op b = false := by
  have e1 : (op == CmpOp.In) = false := by cases op <;> first | rfl | exact absurd rfl h
  have e2 : (op == CmpOp.NotIn) = false := by cases op <;> first | rfl | exact absurd rfl h2
  cases b <;> simp [behindInMarks, e1, e2]
/-- a comparison as a value; hm: nomark b, or (for in, not in) by with_unfolding_all rfl -/
theorem pe_cmpR {op : CmpOp} {r : R2} (ho : OpR X (compareOp op) r) (ha : PE X a ta) (hb : PE X b tb) (hm : behindInMarks op b = false) : PE X (.Compare a [op] [b] pos) (tOp r ta tb) := by
  intro pins s σ H Q I h
  exact wpAny_Compare1 (binT ha hb I h fun v u s2 x y H2 I2 rx ry q => ho pins s2 σ H2 x y v u Q I2 rx ry q) hm
/-- a reading of a value as a test -/
def tTest (t : TE) : TT := fun σ H Q => t σ H fun x H' => ∃ k, x = .bl k ∧ Q k H'
theorem pt_cmpR {op : CmpOp} {r : R2} (ho : OpR X (compareOp op) r) (ha : PE X a ta) (hb : PE X b tb) (hm : behindInMarks op b = false) : PT X (.Compare a [op] [b] pos) (tTest (tOp r ta tb)) := by
  intro pins s σ H Q I h
  refine wpAny_isTrue_Compare1 (thn (ha pins s σ H _ I h) fun v s1 ⟨x, H1, I1, r1, q1⟩ => thn (hb pins s1 σ H1 _ I1 q1) fun u s2 ⟨y, H2, I2, r2, q2⟩ =>
    thn (ho pins s2 σ H2 x y v u _ I2 r1 r2 q2) fun c s3 ⟨z, H3, I3, r3, k, e, q3⟩ => ?_) hm
  subst e
  cases r3
  exact wpAny_truthy_bool ⟨H3, I3, q3⟩
/-- a op1 b op2 c -/
def tChain (r r' : R2) (ta tb tc : TE) : TE := fun σ H Q => ta σ H fun x H1 => tb σ H1 fun y H2 => r x y H2 fun z H3 => ∃ k, z = .bl k ∧
  (if k = true then tc σ H3 fun w' H4 => r' y w' H4 Q else Q (.bl false) H3)
theorem pe_chain {op op' : CmpOp} {r r' : R2} (ho : OpR X (compareOp op) r) (ho' : OpR X (compareOp op') r') (ha : PE X a ta) (hb : PE X b tb) (hc : PE X c tc)
    (hm : lastMarks [op, op'] [b, c] = false := by with_unfolding_all rfl) : PE X (.Compare a [op, op'] [b, c] pos) (tChain r r' ta tb tc) := by
  intro pins s σ H Q I h
  refine Compare_chain (thn (ha pins s σ H _ I h) fun v s1 ⟨x, H1, I1, r1, q1⟩ => chain_link (thn (hb pins s1 σ H1 _ I1 q1) fun u s2 ⟨y, H2, I2, r2, q2⟩ =>
    thn (ho pins s2 σ H2 x y v u _ I2 r1 r2 q2) fun d s3 ⟨z, H3, I3, r3, k, e, q3⟩ => ?_)) hm
  subst e
  cases r3
  refine wpAny_truthy_bool ?_
  cases k with
  | false => exact ite_ff ⟨.bl false, H3, I3, rfl, q3⟩
  | true => exact ite_tt (chain_last (thn (hc pins s3 σ H3 _ I3 q3) fun w' s4 ⟨z', H4, I4, r4, q4⟩ => ho' pins s4 σ H4 y z' u w' Q I4 r2 r4 q4))
theorem line63 : (sizeLine : Nat) < 2 ^ 63 := by rw [sizeLine_eq]; decide
theorem op_add_str : OpR X (binaryOp .Add) (fun x y H Q => ∃ i j, x = .str i ∧ y = .str j ∧ i.length + j.length ≤ sizeLine ∧ Q (.str (i ++ j)) H) := by
  intro pins s σ H x y v u Q I rx ry h
  obtain ⟨i, j, rfl, rfl, hz, q⟩ := h
  obtain ⟨t, rfl⟩ := rx
  obtain ⟨t', rfl⟩ := ry
  exact add_str (fun t' tk => ⟨.str (i ++ j), H, I.tok _, ⟨_, rfl⟩, q⟩) hz
theorem vals1 {x : V} {us : List Value} (r : Vals [x] us) : ∃ u, us = [u] ∧ RelV x u := by
  cases r with
  | cons r1 r2 => cases r2; exact ⟨_, rfl, r1⟩
theorem vals2 {x y : V} {us : List Value} (r : Vals [x, y] us) : ∃ u w', us = [u, w'] ∧ RelV x u ∧ RelV y w' := by
  cases r with
  | cons r1 r2 =>
    cases r2 with
    | cons r3 r4 => cases r4; exact ⟨_, _, rfl, r1, r3⟩
theorem call_max2 (hc : X.calm = true) : CallR X (.builtin "max") (fun xs H Q => ∃ i j, xs = [.int i, .int j] ∧ Q (.int (if j > i then j else i)) H) := by
  intro pins s σ H xs us Q I r h
  obtain ⟨i, j, rfl, q⟩ := h
  obtain ⟨u, w', rfl, ⟨t, rfl⟩, ⟨t', rfl⟩⟩ := vals2 r
  refine max_two_ints (I.ok.hd hc) fun h' tk k => ⟨_, H, I.kept k, ?_, q⟩
  by_cases hj : j > i
  · rw [if_pos hj, if_pos hj]; exact ⟨_, rfl⟩
  · rw [if_neg hj, if_neg hj]; exact ⟨_, rfl⟩
end
end L2

namespace L2
open PySem PySem.Spec PyProof.Rows

structure ObjM (h : Heap) (x dx C : Addr) (mA : Str → Option Value) : Prop where
  obj : h.get? x = some (PySem.W.instObj C dx)
  ns : h.Ns1 dx mA
  ne : dx ≠ x

theorem lookIn_ns {h : Heap} {dx : Addr} {mA : Str → Option Value} (n : h.Ns1 dx mA) : ∃ od, h.get? dx = some od ∧ ∀ name, PySem.W.lookIn name od = some (mA name) := by
  obtain ⟨o, es, ep, ho, hd, hk, _, hm⟩ := n
  refine ⟨o, ho, fun name => ?_⟩
  have e := hm name
  unfold nsFind findBy at e
  rw [← Array.find?_toList] at e
  unfold PySem.W.lookIn
  rw [hd]
  dsimp only
  split
  · rename_i y q
    rw [q] at e
    exact congrArg some e
  · rename_i q
    rw [q] at e
    have a : es.toList.any (·.refKey) = false := by
      rw [List.any_eq_false]
      intro y hy
      obtain ⟨z, t, hkey⟩ := hk y (Array.mem_toList_iff.mp hy)
      simp [DictEntry.refKey, hkey]
    have a' : ¬ es.toList.any (·.refKey) = true := by rw [a]; exact Bool.false_ne_true
    rw [if_neg a']
    exact congrArg some e

theorem ObjM.look {h : Heap} {x dx C : Addr} {mA : Str → Option Value} (I : ObjM h x dx C mA) : ∃ od, PySem.W.InstAt h x (PySem.W.instObj C dx) C (some od) ∧ ∀ name, PySem.W.lookIn name od = some (mA name) :=
  let ⟨od, ho, hl⟩ := lookIn_ns I.ns
  ⟨od, ⟨I.obj, rfl, rfl, ho⟩, hl⟩

section
variable {prog : Program} {w : World} {A : Around} {E : Value → Shared → Prop} {s : Shared} {K : PySem.W.Frag} {x dx C f : Addr} {mA : Str → Option Value} {name : Str} {v : Value}

end

section
variable {P : Program} {w : World} {H H' : Hp} {h h' : Heap} {a C dx : Addr} {fs fs' : List (Str × V)}
theorem ins_get (hok : HOk P w H h) (e : H a = some (.ins C dx fs)) : ∃ mA, ObjM h a dx C mA ∧ (∀ f, RelO (fs.lookup f) (mA f)) ∧ PySem.Within mA (fs.map (·.1)) ∧ fs.length ≤ 1000 ∧ H dx = some (.own a) := by
  obtain ⟨d, z, ne, ob, mA, n, r, q⟩ := (show ObjOk P w H h a (.ins C dx fs) from hok a _ e)
  exact ⟨mA, ⟨ob, n, ne⟩, r, q, z, d⟩
end

structure Cls (K : PySem.W.Frag) (C : Addr) : Prop where
  pg : PySem.W.plainGet K C Str.empty = true
  hd : PySem.W.hasDictIn K C = true
  po : PySem.W.plainOver K C = true
  sa : PySem.W.findIn K (.ref C) "__setattr__" = some (some (.builtin "object.__setattr__"))
theorem Cls.get {K : PySem.W.Frag} {C : Addr} (c : Cls K C) (f : Str) : PySem.W.plainGet K C f = true := c.pg
section
variable {X : Cx} {pins : List (Addr × Obj)} {σ : St} {H : Hp} {s : Shared} {a C dx : Addr} {fs : List (Str × V)} {f : Str} {v : V} {A : Around} {E : Value → Shared → Prop}

/-- a new instance, tracked, without attributes -/
theorem Inv.made (I : Inv X pins σ H s) : Inv X pins σ (upd (upd H s.heap.objs.size (.own (s.heap.objs.size + 1))) (s.heap.objs.size + 1) (.ins C s.heap.objs.size []))
    { s with heap := (s.heap.push PySem.W.emptyDict).push (PySem.W.instObj C s.heap.objs.size) } := by
  have e1 : (s.heap.push PySem.W.emptyDict).get? s.heap.objs.size = some PySem.W.emptyDict := Heap.get?_push_size s.heap rfl
  have e2 : ((s.heap.push PySem.W.emptyDict).push (PySem.W.instObj C s.heap.objs.size)).get? (s.heap.objs.size + 1) = some (PySem.W.instObj C s.heap.objs.size) := by
    have := Heap.get?_push_size (s.heap.push PySem.W.emptyDict) (o := PySem.W.instObj C s.heap.objs.size) rfl
    rwa [Heap.size_push] at this
  have e3 : (s.heap.push PySem.W.emptyDict).Ns s.heap.objs.size (fun _ => none) := ⟨PySem.W.emptyDict, #[], _, e1, rfl, (fun e he => absurd he (by simp)), fun _ => rfl⟩
  have I1 := I.laid (a := s.heap.objs.size) (o := .own (s.heap.objs.size + 1)) (h' := s.heap.push PySem.W.emptyDict) (t' := s.toks) (fun b u q => Heap.get?_push_of_some _ q) (Nat.le_refl _) ⟨_, e1⟩
  refine I1.laid (a := s.heap.objs.size + 1) (o := .ins C s.heap.objs.size []) (t' := s.toks) (fun b u q => Heap.get?_push_of_some _ q) (Nat.le_of_eq (Heap.size_push _ _)) ?_
  have ne : s.heap.objs.size ≠ s.heap.objs.size + 1 := Nat.ne_of_lt (Nat.lt_succ_self _)
  refine ⟨by rw [upd_ne ne, upd_same], Nat.zero_le _, ne, e2, fun _ => none, (Heap.Ns1.of_empty e3).at fun o q => Heap.get?_push_of_some _ q, fun _ => True.intro, fun y hy => absurd rfl hy⟩

end

section
variable {X : Cx} {o e value : Expr} {f : Str} {pos pos' tpos : Pos} {ta tv : TE}
end

section
variable {X : Cx} {pins : List (Addr × Obj)} {σ : St} {H : Hp} {s : Shared} {A : Around} {E : Value → Shared → Prop} {Q : Value → Shared → Prop} {c : Value} {b : Bool}
/-- the type of a value, as the fragment's deciders take it; for an instance its class -/
inductive TyOf (K : PySem.W.Frag) (H : Hp) : V → Value → Prop where
  | non : TyOf K H .non (.type "NoneType")
  | bl (x : Bool) : TyOf K H (.bl x) (.type "bool")
  | int (i : Int) : TyOf K H (.int i) (.type "int")
  | str (x : Str) : TyOf K H (.str x) (.type "str")
  | flt (x : UInt64) : TyOf K H (.flt x) (.type "float")
  | lst {a : Addr} {xs : List V} (e : H a = some (.lst xs)) : TyOf K H (.ref a) (.type "list")
  | frz {a : Addr} {o : Obj} {xs : List V} (e : H a = some (.frz o (.lst xs))) : TyOf K H (.ref a) (.type "list")
  | tup {a : Addr} {xs : List V} (e : H a = some (.tup xs)) : TyOf K H (.ref a) (.type "tuple")
  | dK {a : Addr} {kvs : List (Key × V)} (e : H a = some (.dK kvs)) : TyOf K H (.ref a) (.type "dict")
  | dT {a : Addr} {kvs : List (List Key × V)} (e : H a = some (.dT kvs)) : TyOf K H (.ref a) (.type "dict")
  | ins {a C dx : Addr} {fs : List (Str × V)} (e : H a = some (.ins C dx fs)) (cl : Cls K C) (ha : PySem.W.findIn K (.ref C) "__class__" = some (some (.builtin "object.__class__")))
      (hn : PySem.W.specialIn K (.builtin "object.__class__") "__get__" = some (some (.builtin "getset_descriptor.__get__"))) (htk : PySem.W.takesIn K (.builtin "object.__class__") = some true)
      (hm : PySem.W.mroIn K C (.type "object") = some true) : TyOf K H (.ref a) (.ref C)
/-- isinstance(x, c) for one class c, a built-in or an own one: kitOne's answer -/
theorem isinst_ok {x : V} {u t : Value} (I : Inv X pins σ H s) (rx : RelV x u) (ty : TyOf X.K H x t) (e : PySem.W.kitOne X.K t c = some b) (h : ∀ tk, Q (.bool b) { s with toks := tk }) :
    wpAny (model X.prog X.w) A (call (.builtin "isinstance") [u, c]) Q E s := by
  cases ty with
  | non => cases (show u = Value.none from rx); exact PySem.W.kia_one PySem.W.kitx_none I.kIn True.intro e (fun z => nomatch z) h
  | bl y => cases (show u = Value.bool y from rx); exact PySem.W.kia_one PySem.W.kitx_bool I.kIn True.intro e (fun z => nomatch z) h
  | int i => obtain ⟨t, q⟩ := (show ∃ t, u = Value.int i t from rx); cases q; exact PySem.W.kia_one PySem.W.kitx_int I.kIn True.intro e (fun z => nomatch z) h
  | str y => obtain ⟨t, q⟩ := (show ∃ t, u = Value.str y t from rx); cases q; exact PySem.W.kia_one PySem.W.kitx_str I.kIn True.intro e (fun z => nomatch z) h
  | flt y => obtain ⟨t, q⟩ := (show ∃ t, u = Value.float y t from rx); cases q; exact PySem.W.kia_one PySem.W.kitx_float I.kIn True.intro e (fun z => nomatch z) h
  | @lst a xs ea =>
    cases (show u = Value.ref a from rx)
    obtain ⟨_, _, n, _, h1⟩ := (show ObjOk X.prog X.w H s.heap a (.lst xs) from I.hok a _ ea)
    exact PySem.W.kia_one PySem.W.kitx_list I.kIn ⟨_, h1, rfl⟩ e (fun z => nomatch z) h
  | @frz a ob xs ea =>
    cases (show u = Value.ref a from rx)
    obtain ⟨_, _, _, n, _, h1⟩ := (show ObjOk X.prog X.w H s.heap a (.frz ob (.lst xs)) from I.hok a _ ea)
    exact PySem.W.kia_one PySem.W.kitx_list I.kIn ⟨_, h1, rfl⟩ e (fun z => nomatch z) h
  | @tup a xs ea =>
    cases (show u = Value.ref a from rx)
    obtain ⟨_, _, _, p⟩ := (show ObjOk X.prog X.w H s.heap a (.tup xs) from I.hok a _ ea)
    obtain ⟨o, h1, h2, _⟩ := p
    exact PySem.W.kia_one PySem.W.kitx_tuple I.kIn ⟨o, h1, h2⟩ e (fun z => nomatch z) h
  | @dK a kvs ea =>
    cases (show u = Value.ref a from rx)
    obtain ⟨_, _, vs, _, p⟩ := (show ObjOk X.prog X.w H s.heap a (.dK kvs) from I.hok a _ ea)
    obtain ⟨o, es, ep, h1, h2, _⟩ := p
    exact PySem.W.kia_one PySem.W.kitx_dict I.kIn ⟨o, h1, h2.1⟩ e (fun z => nomatch z) h
  | @dT a kvs ea =>
    cases (show u = Value.ref a from rx)
    obtain ⟨_, _, xs, _, o, es, ep, h1, h2, _⟩ := (show ObjOk X.prog X.w H s.heap a (.dT kvs) from I.hok a _ ea)
    exact PySem.W.kia_one PySem.W.kitx_dict I.kIn ⟨o, h1, h2.1⟩ e (fun z => nomatch z) h
  | @ins a C dx fs ea cl ha hn htk hm =>
    cases (show u = Value.ref a from rx)
    obtain ⟨mA, O, _⟩ := ins_get I.hok ea
    obtain ⟨od, J, _⟩ := O.look
    exact PySem.W.kia_one (PySem.W.kitx_own (cl.get _) cl.hd ha hn htk hm) I.kIn J e (fun z => nomatch z) h
end
end L2

namespace L2
open PySem PySem.Spec PyProof.Rows

structure Room (k : Nat) (A : Around) : Prop where
  hd : A.handled = none
  dp : A.depth + 2 * k + 5 < recursionLimit
  un : A.units + 16 * k + 200 < cLine
theorem Room.mono {j k : Nat} {A : Around} (r : Room k A) (h : j ≤ k) : Room j A := ⟨r.hd, by have := r.dp; omega, by have := r.un; omega⟩
theorem Room.deeper {k : Nat} {A : Around} (r : Room (k + 1) A) (env : Env) : Room k (A.deeper env) :=
  ⟨r.hd, by have := r.dp; show A.depth + 1 + 2 * k + 5 < _; omega, by have := r.un; show A.units + 3 + 16 * k + 200 < _; omega⟩
theorem Room.depth {k : Nat} {A : Around} (r : Room k A) : A.depth < recursionLimit := by have := r.dp; omega
theorem Room.units {k : Nat} {A : Around} (r : Room k A) : A.units + 64 < cLine := by have := r.un; omega
def tNil : TA := fun _ H Q => Q [] H
def tCons (ta : TE) (tr : TA) : TA := fun σ H Q => ta σ H fun x H1 => tr σ H1 fun xs H2 => Q (x :: xs) H2
section
variable {X : Cx} {e : Expr} {es : List Expr} {te : TE} {t : TA} {pos : Pos}
theorem pa_nil : PA X [] tNil := fun _ _ _ _ H Q I h => Calls.spliced_nil ⟨[], H, I, .nil, h⟩
theorem pa_cons (ha : PE X e te) (hr : PA X es t) (hs : starEach (e :: es) X.env = (false, eval e X.env) :: starEach es X.env := by rfl) : PA X (e :: es) (tCons te t) := by
  intro pos pins s σ H Q I h
  rw [hs]
  show wpAny _ _ (spliced ((false, eval e X.env) :: backTo pos (starEach es X.env))) _ _ s
  refine Calls.spliced_cons (thn (ha pins s σ H _ I h) fun u s1 ⟨x, H1, I1, r1, q1⟩ => ?_)
  exact thn (hr pos pins s1 σ H1 _ I1 q1) fun us s2 ⟨xs, H2, I2, r2, q2⟩ => ⟨x :: xs, H2, I2, .cons r1 r2, q2⟩

/-- a tuple, a list of written items -/
def tTup (t : TA) : TE := fun σ H Q => t σ H fun xs H1 => xs.length ≤ sizeLine ∧ ∀ p, H1 p = none → Q (.ref p) (upd H1 p (.tup xs))
def tLst (t : TA) : TE := fun σ H Q => t σ H fun xs H1 => xs.length ≤ sizeLine ∧ ∀ p, H1 p = none → Q (.ref p) (upd H1 p (.lst xs))
end

/-- a def's promise: the bound arguments in the parameters' order, the heap, the wanted end, the wanted exception -/
abbrev Sp := List V → Hp → VK → XK → Prop
/-- how an exception lies behind a call (file 08 gives it): the callers' frames, abstract heap and state ahead of the call, the wish, the exception, the state -/
abbrev CXT := List Env → Hp → Shared → XK → Value → Shared → Prop

/-- the state at a call -/
structure Env0 (P : Program) (w : World) (K : PySem.W.Frag) (mg : Str → Option Value) (base : Heap) (A : Around) (outer : List Env) (s : Shared) (H : Hp) : Prop where
  frames : A.frames = some outer
  mod : Mod K mg base
  bs : ∀ b o, base.get? b = some o → s.heap.get? b = some o ∧ H b = none
  bsz : base.objs.size ≤ s.heap.objs.size
  funs : s.heap.FunFrames base outer
  frf : ∀ b ∈ frs outer, H b = none
  hok : HOk P w H s.heap
  bare : AllBare s.gens
/-- a call's end -/
def CE (outer : List Env) (P : Program) (w : World) (H : Hp) (s : Shared) (Q : VK) (u : Value) (s' : Shared) : Prop :=
  ∃ v H', s'.os = s.os ∧ AllBare s'.gens ∧ Un (frs outer) [] H H' s.heap s'.heap ∧ HOk P w H' s'.heap ∧ RelV v u ∧ Q v H'
def CR (CX : CXT) (outer : List Env) (P : Program) (w : World) (H : Hp) (s : Shared) (Q : VK) (E : XK) (r : Result) (s' : Shared) : Prop :=
  match r with
  | .ok (.ret u) => CE outer P w H s Q u s'
  | .ok _ => False
  | .error e => CX outer H s E e s'
structure FnOk (P : Program) (w : World) (K : PySem.W.Frag) (mg : Str → Option Value) (base : Heap) (CX : CXT) (k : Nat) (f : Addr) (fd : FuncData) (ps : List Str) (sp : Sp) : Prop where
  len : ∀ vs H Q E, sp vs H Q E → vs.length = ps.length
  run : ∀ (A : Around) (outer : List Env) (s : Shared) (H : Hp) (args : Args) (us : List Value) (vs : List V) (Q : VK) (E : XK), Room k A → Env0 P w K mg base A outer s H → BindsTo s fd args (ps.zip us) → Vals vs us → sp vs H Q E →
    codeAny (model P w) A (.call (.ref f) args) (CR CX outer P w H s Q E) s
theorem FnOk.mono {P : Program} {w : World} {K : PySem.W.Frag} {mg : Str → Option Value} {base : Heap} {CX : CXT} {j k : Nat} {f : Addr} {fd : FuncData} {ps : List Str} {sp : Sp} (F : FnOk P w K mg base CX j f fd ps sp) (h : j ≤ k) :
    FnOk P w K mg base CX k f fd ps sp := ⟨F.len, fun A outer s H args us vs Q E hr => F.run A outer s H args us vs Q E (hr.mono h)⟩
/-- a weaker promise -/
theorem FnOk.imp {P : Program} {w : World} {K : PySem.W.Frag} {mg : Str → Option Value} {base : Heap} {CX : CXT} {k : Nat} {f : Addr} {fd : FuncData} {ps : List Str} {sp sp' : Sp} (F : FnOk P w K mg base CX k f fd ps sp)
    (h : ∀ vs H Q E, sp' vs H Q E → sp vs H Q E) : FnOk P w K mg base CX k f fd ps sp' :=
  ⟨fun vs H Q E q => F.len vs H Q E (h _ _ _ _ q), fun A outer s H args us vs Q E hr he hb hv hs => F.run A outer s H args us vs Q E hr he hb hv (h _ _ _ _ hs)⟩

section
variable {X : Cx} {pins : List (Addr × Obj)} {σ : St} {H : Hp} {s s' : Shared}
/-- from a body: what a callee wants -/
theorem Inv.env0 (I : Inv X pins σ H s) : Env0 X.prog X.w X.K X.mg X.base X.A X.stack s H :=
  ⟨I.ok.frames, I.ok.mod, I.bs, Nat.le_trans I.ok.bsz I.sz, I.stack, I.stkFree, I.hok, I.bare⟩
/-- behind a call -/
theorem Inv.after {Q : VK} {u : Value} (I : Inv X pins σ H s) (h : CE X.stack X.prog X.w H s Q u s') : EP X pins σ Q u s' := by
  obtain ⟨v, H', os, bare, un, hok, r, q⟩ := h
  obtain ⟨hh, g, d, t, os'⟩ := s'
  obtain rfl : os' = s.os := os
  exact ⟨v, H', I.call (h' := hh) (g' := g) (d' := d) (t' := t) (ch := []) un hok bare (fun b z => absurd z (by simp)), r, q⟩
end

/-- f(..): the written arguments, then the defaults dvs; E: what is wanted of an exception -/
def tCall (sp : Sp) (dvs : List V) (E : XK) (t : TA) : TE := fun σ H Q => t σ H fun vs H1 => sp (vs ++ dvs) H1 Q E
/-- how the parameters are bound: us the positional arguments, kw the keywords' values by name, ds the defaults that fill up -/
def Binds (K : PySem.W.Frag) (fd : FuncData) (ps : List Str) (ds : List Value) : Prop :=
  ∀ (s : Shared) (us : List Value), K.In s.heap → (us ++ ds).length = ps.length → BindsTo s fd ⟨us, []⟩ (ps.zip (us ++ ds))
/-- every parameter is given -/
theorem Binds.all {K : PySem.W.Frag} {fd : FuncData} {ps : List Str} (h : ∀ us : List Value, us.length = ps.length → bindArgs fd ⟨us, []⟩ = pure (ps.zip us)) : Binds K fd ps [] := fun s us _ hl => by
  rw [List.append_nil] at hl ⊢
  exact .of_eq (h us hl)

/-- an exception of a callee reaches what this body wants of exceptions -/
def Passes (CX : CXT) (X : Cx) (E : XK) : Prop := ∀ (pins : List (Addr × Obj)) (σ : St) (H : Hp) (s : Shared) (e : Value) (s' : Shared), Inv X pins σ H s → CX X.stack H s E e s' → X.xe e s'

section
variable {X : Cx} {CX : CXT} {k : Nat} {f C : Addr} {fd : FuncData} {ps : List Str} {sp : Sp} {dvs : List V} {ds : List Value} {E : XK} {x m : Str} {p pos apos : Pos} {e o : Expr} {es : List Expr} {ta : TE} {t : TA}

/-- the callee runs -/
theorem run_fn {pins : List (Addr × Obj)} {σ : St} {H : Hp} {s : Shared} {Q : VK} {us : List Value} {vs : List V} (F : FnOk X.prog X.w X.K X.mg X.base CX k f fd ps sp) (hr : Room k X.A) (hb : Binds X.K fd ps ds) (hd : Vals dvs ds) (hx : Passes CX X E)
    (I : Inv X pins σ H s) (r : Vals vs us) (h : sp (vs ++ dvs) H Q E) : wpAny (model X.prog X.w) X.A (call (.ref f) us) (EP X pins σ Q) X.xe s := by
  have r2 : Vals (vs ++ dvs) (us ++ ds) := r.append hd
  have hl : (us ++ ds).length = ps.length := by rw [← r2.length]; exact F.len _ _ _ _ h
  refine wpAny_call (codeAny_mono (F.run X.A X.stack s H ⟨us, []⟩ (us ++ ds) (vs ++ dvs) Q E hr I.env0 (hb s us I.kIn hl) r2 h) fun r s' hq => ?_)
  cases r with
  | error e => exact hx pins σ H s e s' I hq
  | ok fl =>
    cases fl with
    | ret u => exact I.after hq
    | next => exact False.elim hq
    | brk => exact False.elim hq
    | cont => exact False.elim hq

theorem pe_call (F : FnOk X.prog X.w X.K X.mg X.base CX k f fd ps sp) (hr : Room k X.A) (hg : Gl X x) (hm : X.mg x = some (.ref f)) (hk : PySem.W.keepIn X.K (.ref f) = true) (hb : Binds X.K fd ps ds) (hd : Vals dvs ds) (hx : Passes CX X E)
    (ha : PA X (e :: es) t) (hdb : (x == ("__debug__" : Str)) = false := by decide) (he : starEach (e :: es) X.env = (false, eval e X.env) :: starEach es X.env := by rfl) (hpl : (backTo pos (starEach es X.env)).any (·.1) = false := by rfl) :
    PE X (.Call (.Name x p) (e :: es) [] pos) (tCall sp dvs E t) := by
  intro pins s σ H Q I h
  refine wpAny_Call_Name_kw (ld_glob I hg hm ?_ hdb)
  refine PySem.W.callWith_K (h₀ := X.base) I.ok.mod.kin hk (thn (ha pos pins s σ H _ I h) fun us s1 ⟨vs, H1, I1, r, q⟩ => ⟨I1.kIn, ?_⟩) he hpl
  exact run_fn F hr hb hd hx I1 r q
end

section
variable {X : Cx} {CX : CXT} {k : Nat} {f C : Addr} {fd : FuncData} {ps ks : List Str} {sp : Sp} {E : XK} {x m : Str} {p pos apos kpos : Pos} {e o : Expr} {es : List Expr} {kws : List Keyword} {te ta : TE} {t tk : TA} {nm : Option Str}
variable {g : List Value → List Value → List Value} {gV : List V → List V → List V}
end

/-- names: the parameters first -/
structure FnScope (N P : List Str) (sc : Scope) : Prop where
  kind : sc.kind = .function
  co : sc.isCoroutine = false
  gen : sc.isGenerator = false
  nd : N.Nodup
  pre : N.take P.length = P
  par : ∀ x ∈ P, sc.names.lookup x = some .local ∨ sc.names.lookup x = some .cell
  nofree : ∀ y ∈ sc.names, y.2 ≠ .free

theorem bindL_out {kindOf : Str → Option NameKind} {x : Str} : ∀ {binds : List (Str × Value)} {m : Str → Option Value}, (∀ v, (x, v) ∉ binds) → bindL kindOf binds m x = m x
  | [], _, _ => rfl
  | (n, v) :: r, m, h => by
    unfold bindL
    rw [bindL_out fun w hw => h w (List.mem_cons_of_mem _ hw)]
    split
    · have : x ≠ n := by rintro rfl; exact h v List.mem_cons_self
      simp [this]
    · rfl
theorem bindC_out {kindOf : Str → Option NameKind} {x : Str} : ∀ {binds : List (Str × Value)} {m : Str → Option Value}, (∀ v, (x, v) ∉ binds) → bindC kindOf binds m x = m x
  | [], _, _ => rfl
  | (n, v) :: r, m, h => by
    unfold bindC
    rw [bindC_out fun w hw => h w (List.mem_cons_of_mem _ hw)]
    split
    · rfl
    · have : x ≠ n := by rintro rfl; exact h v List.mem_cons_self
      simp [this]
theorem bindL_get {kindOf : Str → Option NameKind} {x : Str} {v : Value} : ∀ {P : List Str} {vs : List Value} {i : Nat} {m : Str → Option Value}, P.Nodup → P[i]? = some x → vs[i]? = some v → kindOf x = some .local →
    bindL kindOf (P.zip vs) m x = some v
  | [], _, _, _, _, h, _, _ => by simp at h
  | _ :: _, [], _, _, _, _, h, _ => by simp at h
  | p :: P, w :: vs, 0, m, nd, h1, h2, hk => by
    simp at h1 h2; subst h1; subst h2
    show bindL kindOf ((p, w) :: P.zip vs) m p = _
    unfold bindL
    rw [bindL_out fun v hv => (List.nodup_cons.mp nd).1 (List.of_mem_zip hv).1, if_pos hk]
    simp
  | p :: P, w :: vs, i + 1, m, nd, h1, h2, hk => by
    show bindL kindOf ((p, w) :: P.zip vs) m x = _
    unfold bindL
    exact bindL_get (i := i) (List.nodup_cons.mp nd).2 (by simpa using h1) (by simpa using h2) hk
theorem bindC_get {kindOf : Str → Option NameKind} {x : Str} {v : Value} : ∀ {P : List Str} {vs : List Value} {i : Nat} {m : Str → Option Value}, P.Nodup → P[i]? = some x → vs[i]? = some v → kindOf x ≠ some .local →
    bindC kindOf (P.zip vs) m x = some v
  | [], _, _, _, _, h, _, _ => by simp at h
  | _ :: _, [], _, _, _, _, h, _ => by simp at h
  | p :: P, w :: vs, 0, m, nd, h1, h2, hk => by
    simp at h1 h2; subst h1; subst h2
    show bindC kindOf ((p, w) :: P.zip vs) m p = _
    unfold bindC
    rw [bindC_out fun v hv => (List.nodup_cons.mp nd).1 (List.of_mem_zip hv).1, if_neg hk]
    simp
  | p :: P, w :: vs, i + 1, m, nd, h1, h2, hk => by
    show bindC kindOf ((p, w) :: P.zip vs) m x = _
    unfold bindC
    exact bindC_get (i := i) (List.nodup_cons.mp nd).2 (by simpa using h1) (by simpa using h2) hk

/-- the names' values at the entry -/
def start (N : List Str) (vs : List V) : St := vs.map some ++ List.replicate (N.length - vs.length) none

/-- the context of a def's body, at its entry; an exception leaves the frame, then lies as CX says -/
def cxOf (CX : CXT) (P : Program) (w : World) (K : PySem.W.Frag) (mg : Str → Option Value) (base : Heap) (N : List Str) (qual : Str) (scope : Scope) (f : Addr) (cd : Value) (A : Around) (outer : List Env) (s : Shared) (H : Hp) (E : XK) : Cx where
  prog := P
  w := w
  K := K
  mg := mg
  base := base
  A := A.deeper (envOfC qual scope s.heap.objs.size f cd)
  N := N
  s₀ := s
  H₀ := H
  env := envOfC qual scope s.heap.objs.size f cd
  outer := outer
  stack := envOfC qual scope s.heap.objs.size f cd :: outer
  ex := []
  calm := true
  fn := fun _ => true
  pn := []
  xe := fun e s' => wpAny (model P w) (A.deeper (envOfC qual scope s.heap.objs.size f cd)) (leaving (envOfC qual scope s.heap.objs.size f cd) e) (fun _ s'' => CX outer H s E e s'') (fun e' s'' => CX outer H s E e' s'') s'

theorem cell_has {sc : Scope} {n : Nat} {x : Str} (h : sc.names.lookup x = some .cell) : ∃ c, (cellsFrom n sc.names []).lookup x = some c := by
  have q := PySem.W.cellsFrom_some sc.names n [] (.inl h)
  exact Option.isSome_iff_exists.mp q

theorem inv_start {CX : CXT} {P : Program} {w : World} {K : PySem.W.Frag} {mg : Str → Option Value} {base : Heap} {N ps : List Str} {qual : Str} {scope : Scope} {f : Addr} {cd : Value} {A : Around} {outer : List Env} {s s1 : Shared} {H : Hp} {E : XK} {us : List Value} {vs : List V}
    (S : FnScope N ps scope) (hd : A.handled = none) (e0 : Env0 P w K mg base A outer s H) (hl : vs.length = ps.length) (r : Vals vs us)
    (x : InCallC s s.heap.objs.size (bindL (envOfC qual scope s.heap.objs.size f cd).kindOf (ps.zip us) fun _ => none) (cellsFrom (s.heap.objs.size + 1) scope.names []) (bindC (envOfC qual scope s.heap.objs.size f cd).kindOf (ps.zip us) fun _ => none) s1) :
    Inv (cxOf CX P w K mg base N qual scope f cd A outer s H E) [] (start N vs) H s1 := by
  have hpl : ps.length ≤ N.length := by have := congrArg List.length S.pre; rw [List.length_take] at this; omega
  obtain ⟨h1, tk, rfl, hk⟩ := x.done
  have noA : ∀ b : Addr, b ∉ (cxOf CX P w K mg base N qual scope f cd A outer s H E).ex := fun b z => absurd (show b ∈ ([] : List Addr) from z) (by simp)
  refine ⟨⟨e0.mod, S.kind, rfl, rfl, Nat.le_refl _, fun y z c h1 h2 => ?_, fun y hy => ?_, fun y c _ h => ?_, fun _ => hd, Around.frames_deeper e0.frames, .inr ⟨rfl, rfl⟩, fun b z => absurd z (noA b), e0.bs, e0.bsz, fun b _ _ => noA b, fun b z => absurd z (noA b), e0.funs, e0.frf⟩,
    rfl, e0.bare, Un.kept hk, ⟨_, x.toInCall.ns, fun i y v h1 h2 h3 => ?_⟩, fun y c h => ⟨_, x.cell y c h⟩, e0.hok.fresh (Nat.le_refl _), fun y c h => ?_, fun p hp => absurd (show p ∈ ([] : List (Addr × Obj)) from hp) (by simp), e0.hok.kept hk, ?_⟩
  · exact name_of_addr x.apart (PySem.mem_of_lookup h1) (PySem.mem_of_lookup h2)
  · have hy : scope.names.lookup y = some .cell ∨ scope.names.lookup y = some .free := hy
    rcases hy with hy | hy
    · exact cell_has hy
    · exact absurd rfl (S.nofree _ (PySem.mem_of_lookup hy))
  · exact Nat.le_of_lt (x.above y c (PySem.mem_of_lookup h))
  · have hi : i < vs.length := by
      unfold start at h2
      by_cases hi : i < vs.length
      · exact hi
      · rw [List.getElem?_append_right (by simpa using hi)] at h2
        rw [List.getElem?_replicate] at h2
        split at h2 <;> cases h2
    have ha : vs[i]? = some v := by
      unfold start at h2
      rw [List.getElem?_append_left (by simpa using hi), List.getElem?_map] at h2
      cases e : vs[i]? with
      | none => rw [e] at h2; cases h2
      | some a => rw [e] at h2; cases h2; rfl
    obtain ⟨u, hu, rv⟩ := r.get ha
    have hp : ps[i]? = some y := by
      rw [← S.pre, List.getElem?_take_of_lt (by omega)]; exact h1
    have ndP : ps.Nodup := by rw [← S.pre]; exact S.nd.sublist (List.take_sublist _ _)
    refine ⟨u, rv, ?_⟩
    rcases S.par y (List.mem_of_getElem? hp) with k | k
    · exact .inl ⟨k, bindL_get ndP hp hu k⟩
    · obtain ⟨c, e⟩ := cell_has (n := s.heap.objs.size + 1) k
      refine .inr ⟨.inl k, c, e, ?_⟩
      have q := x.cell y c e
      rw [bindC_get ndP hp hu (by show scope.names.lookup y ≠ _; rw [k]; decide)] at q
      exact q
  · exact e0.hok.fresh (Nat.le_of_lt (x.above y c (PySem.mem_of_lookup h)))
  · unfold start
    show _ = N.length
    rw [List.length_append, List.length_map, List.length_replicate]
    omega

/-- THE RULE: a def (or a method) of the text, by its body. The body's reading t is chosen for each entry; it is run at the parameters' values -/
theorem fn_of {CX : CXT} {P : Program} {w : World} {K : PySem.W.Frag} {mg : Str → Option Value} {base : Heap} {k : Nat} {f : Addr} {name qual : Str} {params : Arguments} {body : List Stmt} {scope : Scope} {dV kV doc pm cdv ct oc : Value} {an od : Option Addr}
    {osl : Array (Option Value)} {N ps : List Str} {sp : Sp} (lk : K.lookup f = some ⟨oc, od, .func (PySem.W.fnOf name qual params body scope dV kV doc pm an cdv ct), osl⟩) (hcd : PySem.W.codeIn K cdv qual = true) (S : FnScope N ps scope)
    (len : ∀ vs H Q E, sp vs H Q E → vs.length = ps.length)
    (hbody : ∀ (A : Around) (outer : List Env) (s : Shared) (H : Hp) (vs : List V) (Q : VK) (E : XK), Room k (A.deeper (envOfC qual scope s.heap.objs.size f cdv)) → sp vs H Q E →
      ∃ t, PSs (cxOf CX P w K mg base N qual scope f cdv A outer s H E) body t ∧ t { nx := fun _ H' => Q .non H', rt := Q } (start N vs) H) :
    FnOk P w K mg base CX (k + 1) f (PySem.W.fnOf name qual params body scope dV kV doc pm an cdv ct) ps sp := by
  refine ⟨len, fun A outer s H args us vs Q E hr e0 hb r hsp => ?_⟩
  have hl := len _ _ _ _ hsp
  have KX : K.In s.heap := e0.mod.kin.keeps fun b o e => (e0.bs b o e).1
  have lim : s.heap.NoLimit := e0.mod.nolimit.keeps fun b o e => (e0.bs b o e).1
  have hkind : ∀ y ∈ ps.zip us, scope.names.lookup y.1 = some .local ∨ (scope.names.lookup y.1 = some .cell ∧ ((cellsFrom (s.heap.objs.size + 1) scope.names []).lookup y.1).isSome = true) := fun ⟨n, v⟩ hy => by
    rcases S.par n (List.of_mem_zip hy).1 with q | q
    · exact .inl q
    · exact .inr ⟨q, PySem.W.cellsFrom_some _ _ _ (.inl q)⟩
  refine codeAny_call_function hr.depth (KX _ _ lk) rfl S.co S.gen rfl (PySem.W.codeRec_of KX hcd) (hb _ _ _ _ ?_)
  refine wpAny_newFunctionEnv_cells S.kind hkind fun env he s1 x => ?_
  subst he
  refine ⟨lim.keeps x.toInCall.keep, codeAny_func ?_⟩
  obtain ⟨t, ht, hq⟩ := hbody A outer s H vs Q E (hr.deeper _) hsp
  have I : Inv (cxOf CX P w K mg base N qual scope f cdv A outer s H E) [] (start N vs) H s1 := inv_start S hr.hd e0 hl r x
  refine wpAny_mono (ht [] s1 (start N vs) H _ I hq) (fun fl s' hs => ?_) fun e s' hs => hs
  have fin : ∀ {σ' : St} {H' : Hp} {v : V} {u : Value}, Inv (cxOf CX P w K mg base N qual scope f cdv A outer s H E) [] σ' H' s' → RelV v u → Q v H' → CE outer P w H s Q u s' :=
    fun {σ' H' v u} J rv q => ⟨v, H', J.os, J.bare, J.base, J.hok, rv, q⟩
  cases fl with
  | ret u =>
    obtain ⟨v, σ', H', J, rv, q⟩ := hs
    exact fin J rv q
  | next =>
    obtain ⟨σ', H', J, q⟩ := hs
    exact fin (v := V.non) (u := Value.none) J rfl q
  | brk =>
    obtain ⟨_, _, _, q⟩ := hs
    exact False.elim q
  | cont =>
    obtain ⟨_, _, _, q⟩ := hs
    exact False.elim q
end L2

namespace L2
open PySem PySem.Spec PyProof.Rows
section
variable {X : Cx} {x : Str} {p pos : Pos} {e : Expr} {es : List Expr} {t : TA} {id T : String} {r : List V → Hp → VK → Prop}

def tCB (r : List V → Hp → VK → Prop) (t : TA) : TE := fun σ H Q => t σ H fun vs H1 => r vs H1 Q
/-- f(e, ..), f a built-in function -/
theorem pe_callB (hc : CallR X (.builtin id) r) (hg : Gl X x) (hm : X.mg x = none) (hv : bootBuiltins x = some (.builtin id)) (ha : PA X (e :: es) t) (hn : x ≠ "__name__" := by decide) (hdb : (x == ("__debug__" : Str)) = false := by decide)
    (he : starEach (e :: es) X.env = (false, eval e X.env) :: starEach es X.env := by rfl) (hpl : (backTo pos (starEach es X.env)).any (·.1) = false := by rfl) : PE X (.Call (.Name x p) (e :: es) [] pos) (tCB r t) := by
  intro pins s σ H Q I h
  refine wpAny_Call_Name_kw (ld_blt I hg hm hv ?_ hn hdb)
  exact PyProof.Rows.callWith_builtin1 (thn (ha pos pins s σ H _ I h) fun us s1 ⟨vs, H1, I1, r1, q1⟩ => hc pins s1 σ H1 vs us Q I1 r1 q1) he hpl
end
end L2

namespace HT
open PySem PyProof.Rows

section
open PySem.SeqAt
open PySem.AutoSeq1 (wpAny_loadPart')
open PySem.MeetsSeq PySem.MeetsSeq2 PySem.MeetsSeq3

end

section
variable {prog : Program} {w : World} {A : Around} {E : Value → Shared → Prop} {s : Shared}

/-- a slice's bound as a place among n (d where it is left out) -/
def sIx (n d : Nat) : Option Int → Nat
  | none => d
  | some v => if v < 0 then (v + (n : Int)).toNat else min v.toNat n
theorem sIx_le (n d : Nat) (hd : d ≤ n) (o : Option Int) : sIx n d o ≤ n := by
  cases o with
  | none => exact hd
  | some v =>
    show (if v < 0 then (v + (n : Int)).toNat else min v.toNat n) ≤ n
    by_cases hv : v < 0
    · rw [if_pos hv]; omega
    · rw [if_neg hv]; exact Nat.min_le_right _ _
end
end HT

namespace L2
open PySem PySem.Spec PyProof.Rows

abbrev TO := St → Hp → (Option Int → Hp → Prop) → Prop
/-- a slice's part (left out, or an int) -/
def PO (X : Cx) (e : Option Expr) (t : TO) : Prop :=
  ∀ (pins : List (Addr × Obj)) (s : Shared) (σ : St) (H : Hp) (Q : Option Int → Hp → Prop), Inv X pins σ H s → t σ H Q →
    wpAny (model X.prog X.w) X.A (evalPart e X.env) (fun u s' => ∃ o H', Inv X pins σ H' s' ∧ IsPart u o ∧ Q o H') X.xe s
def tNoPart : TO := fun _ H Q => Q none H
def tPart (t : TE) : TO := fun σ H Q => t σ H fun x H1 => ∃ i, x = .int i ∧ Q (some i) H1

section
variable {X : Cx} {e : Expr} {te : TE} {lo hi : Option Expr} {tl th : TO} {pos p2 : Pos}

theorem po_none : PO X none tNoPart := by
  intro pins s σ H Q I h
  rw [evalPart_none]
  exact wpAny_pure ⟨none, H, I, .none, h⟩
theorem po_some (h : PE X e te) : PO X (some e) (tPart te) := by
  intro pins s σ H Q I hw
  rw [evalPart_some]
  refine thn (h pins s σ H _ I hw) fun u s1 ⟨x, H1, I1, r1, q1⟩ => ?_
  obtain ⟨i, rfl, q⟩ := q1
  obtain ⟨t, rfl⟩ := r1
  exact ⟨some i, H1, I1, .int i t, q⟩

/-- what a slice of a value is, by values: the slice object stands at sl -/
def SlR (X : Cx) (r : V → Option Int → Option Int → Hp → VK → Prop) : Prop :=
  ∀ (pins : List (Addr × Obj)) (s : Shared) (σ : St) (H : Hp) (x : V) (v vl vu : Value) (lo hi : Option Int) (sl : Addr) (Q : VK), Inv X pins σ H s → RelV x v → s.heap.IsSliceOf sl vl vu .none → IsPart vl lo → IsPart vu hi → r x lo hi H Q →
    ∃ T id, typeLookup (.type T) "__getitem__" = pure (some (.builtin id)) ∧ s.TypeIs v T ∧ wpAny (model X.prog X.w) X.A (getItem v (.ref sl)) (EP X pins σ Q) X.xe s
theorem SlR.or {r r' : V → Option Int → Option Int → Hp → VK → Prop} (h : SlR X r) (h' : SlR X r') : SlR X (fun x lo hi H Q => r x lo hi H Q ∨ r' x lo hi H Q) := by
  intro pins s σ H x v vl vu lo hi sl Q I rx hs pl pu q
  rcases q with q | q
  · exact h pins s σ H x v vl vu lo hi sl Q I rx hs pl pu q
  · exact h' pins s σ H x v vl vu lo hi sl Q I rx hs pl pu q
def tSl (r : V → Option Int → Option Int → Hp → VK → Prop) (te : TE) (tl th : TO) : TE := fun σ H Q => te σ H fun x H1 => tl σ H1 fun l H2 => th σ H2 fun u H3 => r x l u H3 Q
/-- a[lo:hi], any a -/
theorem pe_slice {r : V → Option Int → Option Int → Hp → VK → Prop} (hr : SlR X r) (he : PE X e te) (hl : PO X lo tl) (hu : PO X hi th) : PE X (.Subscript e (.Slice lo hi none p2) pos) (tSl r te tl th) := by
  intro pins s σ H Q I h
  refine Subscript_ (thn (he pins s σ H _ I h) fun v s1 ⟨x, H1, I1, r1, q1⟩ => ?_)
  refine wpAny_Slice (thn (hl pins s1 σ H1 _ I1 q1) fun vl s2 ⟨l, H2, I2, pl, q2⟩ => thn (hu pins s2 σ H2 _ I2 q2) fun vu s3 ⟨u, H3, I3, pu, q3⟩ => ?_)
  rw [evalPart_none]
  refine wpAny_pure ?_
  have I4 : Inv X pins σ H3 { s3 with heap := s3.heap.push { cls := .type "slice", data := .fields #[vl, vu, .none] } } := I3.kept (t' := s3.toks) fun b ob q => Heap.get?_push_of_some _ q
  obtain ⟨T, id, hT, ht, hg⟩ := hr pins { s3 with heap := s3.heap.push { cls := .type "slice", data := .fields #[vl, vu, .none] } } σ H3 x v vl vu l u s3.heap.objs.size Q I4 r1 (Heap.IsSliceOf.new ..) pl pu q3
  show wpAny (model X.prog X.w) X.A (subscriptTail e (.Slice lo hi none p2) v (.ref s3.heap.objs.size)) (EP X pins σ Q) X.xe { s3 with heap := s3.heap.push { cls := .type "slice", data := .fields #[vl, vu, .none] } }
  exact tail_any (ops := [.ref s3.heap.objs.size, v]) ht hT hg (by with_unfolding_all rfl)

/-- t + u, t not empty: u empty gives t itself -/
def rCatT (K : PySem.W.Frag) : R2 := fun x y H Q => ∃ a b xs ys, x = .ref a ∧ y = .ref b ∧ SqT K H a xs ∧ SqT K H b ys ∧ xs ≠ [] ∧ xs.length + ys.length ≤ sizeLine ∧
  (ys = [] → Q (.ref a) H) ∧ (ys ≠ [] → ∀ p, H p = none → Q (.ref p) (upd H p (.tup (xs ++ ys))))
end
end L2

namespace L2
open PySem PySem.Spec PyProof.Rows

/-- the place that an index of any sign means -/
def ixN (n : Nat) (i : Int) : Option Nat := if 0 ≤ i then (if i < n then some i.toNat else none) else if -(n : Int) ≤ i then some (i + n).toNat else none
def atI {α : Type} (xs : List α) (i : Int) : Option α := (ixN xs.length i).bind fun j => xs[j]?
theorem ixN_seq {n : Nat} {i : Int} {j : Nat} (h : ixN n i = some j) : seqIndex? i n = some j ∧ j < n ∧ -(n : Int) ≤ i ∧ i < n := by
  unfold ixN at h
  by_cases h0 : 0 ≤ i
  · rw [if_pos h0] at h
    by_cases h1 : i < n
    · rw [if_pos h1] at h
      have e : i.toNat = j := Option.some.inj h
      exact ⟨by rw [seqIndex_of h0 h1, e], by omega, by omega, h1⟩
    · rw [if_neg h1] at h; cases h
  · rw [if_neg h0] at h
    by_cases h1 : -(n : Int) ≤ i
    · rw [if_pos h1] at h
      have e : (i + n).toNat = j := Option.some.inj h
      exact ⟨by rw [seqIndex_neg (by omega) h1, e], by omega, h1, by omega⟩
    · rw [if_neg h1] at h; cases h
theorem atI_get {α : Type} {xs : List α} {i : Int} {v : α} (h : atI xs i = some v) : ∃ j, seqIndex? i xs.length = some j ∧ xs[j]? = some v ∧ j < xs.length ∧ -(xs.length : Int) ≤ i ∧ i < xs.length := by
  unfold atI at h
  cases e : ixN xs.length i with
  | none => rw [e] at h; cases h
  | some j =>
    rw [e] at h
    obtain ⟨h1, h2, h3, h4⟩ := ixN_seq e
    exact ⟨j, h1, h, h2, h3, h4⟩
theorem atI_nat {α : Type} {xs : List α} {j : Nat} {v : α} (h : xs[j]? = some v) : atI xs (j : Int) = some v := by
  have hj : j < xs.length := (List.getElem?_eq_some_iff.mp h).1
  have e : ixN xs.length (j : Int) = some j := by
    unfold ixN
    rw [if_pos (by omega), if_pos (by omega)]; simp
  unfold atI; rw [e]; exact h
theorem atI_last {α : Type} (xs : List α) (v : α) : atI (xs ++ [v]) (-1) = some v := by
  have hl : (xs ++ [v]).length = xs.length + 1 := by simp
  have e : ixN (xs ++ [v]).length (-1) = some xs.length := by
    unfold ixN
    rw [hl, if_neg (by decide), if_pos (by omega)]
    congr 1
    omega
  unfold atI
  rw [e]
  show (xs ++ [v])[xs.length]? = some v
  simp

/-- what stands as an index of a plain subscript -/
def PlainIx (b : Expr) : Prop := ∀ o i, subscripted b false o i = operate [o, i] (getItem o i)
/-- a subscript by values -/
def IxR (X : Cx) (r : R2) : Prop :=
  ∀ (value slice : Expr) (pins : List (Addr × Obj)) (s : Shared) (σ : St) (H : Hp) (x y : V) (v u : Value) (Q : VK), Inv X pins σ H s → RelV x v → RelV y u → r x y H Q →
    subscripted slice false v u = operate [v, u] (getItem v u) → wpAny (model X.prog X.w) X.A (subscriptTail value slice v u) (EP X pins σ Q) X.xe s
/-- a call of a builtin's method by values: the receiver, the arguments -/
def MtR (X : Cx) (id : String) (r : V → List V → Hp → VK → Prop) : Prop :=
  ∀ (pins : List (Addr × Obj)) (s : Shared) (σ : St) (H : Hp) (x : V) (xs : List V) (v : Value) (us : List Value) (Q : VK), Inv X pins σ H s → RelV x v → Vals xs us → r x xs H Q →
    wpAny (model X.prog X.w) X.A (call (.builtin id) (v :: us)) (EP X pins σ Q) X.xe s
section
variable {X : Cx} {a b : Expr} {ta tb : TE} {pos : Pos}
theorem IxR.or {r r' : R2} (h : IxR X r) (h' : IxR X r') : IxR X (fun x y H Q => r x y H Q ∨ r' x y H Q) := by
  intro value slice pins s σ H x y v u Q I rx ry q hs
  rcases q with q | q
  · exact h value slice pins s σ H x y v u Q I rx ry q hs
  · exact h' value slice pins s σ H x y v u Q I rx ry q hs
theorem MtR.or {id : String} {r r' : V → List V → Hp → VK → Prop} (h : MtR X id r) (h' : MtR X id r') : MtR X id (fun x xs H Q => r x xs H Q ∨ r' x xs H Q) := by
  intro pins s σ H x xs v us Q I rx rs q
  rcases q with q | q
  · exact h pins s σ H x xs v us Q I rx rs q
  · exact h' pins s σ H x xs v us Q I rx rs q
/-- a[b] -/
theorem pe_ix {r : R2} (hr : IxR X r) (ha : PE X a ta) (hb : PE X b tb) (hs : PlainIx b) : PE X (.Subscript a b pos) (tOp r ta tb) := by
  intro pins s σ H Q I h
  exact Subscript_ (binT ha hb I h fun v u s2 x y H2 I2 rx ry q => hr a b pins s2 σ H2 x y v u Q I2 rx ry q (hs _ _))

def rIxL (K : PySem.W.Frag) : R2 := fun x y H Q => ∃ p xs i v, x = .ref p ∧ y = .int i ∧ SqL K H p xs ∧ atI xs i = some v ∧ Q v H
def rIxT (K : PySem.W.Frag) : R2 := fun x y H Q => ∃ p xs i v, x = .ref p ∧ y = .int i ∧ SqT K H p xs ∧ atI xs i = some v ∧ Q v H
def rIxS : R2 := fun x y H Q => ∃ z i c, x = .str z ∧ y = .int i ∧ z.length ≤ sizeLine ∧ atI z.cps.toList i = some c ∧ Q (.str ⟨#[c]⟩) H
theorem ix_list : IxR X (rIxL X.K) := by
  intro value slice pins s σ H x y v u Q I rx ry h hs
  obtain ⟨p, xs, i, z, rfl, rfl, hq, he, q⟩ := h
  cases rx
  obtain ⟨t, rfl⟩ := ry
  obtain ⟨its, r, pl, hz⟩ := I.list hq
  obtain ⟨j, h1, h2, h3, h4, h5⟩ := atI_get he
  obtain ⟨w, ew, rw'⟩ := r.get h2
  have hl := r.length
  have hn := line63
  have fin : EP X pins σ Q w s := ⟨z, H, I, rw', q⟩
  by_cases h0 : 0 ≤ i
  · have hj : i.toNat = j := by
      rw [seqIndex_of h0 h5] at h1
      exact Option.some.inj h1
    exact item_listR pl.isList h0 (by omega) (by rw [hj]; simpa using ew) fin hs
  · have hj : (i + (its.toArray.size : Int)).toNat = j := by
      rw [seqIndex_neg (by omega) h4] at h1
      rw [List.size_toArray, ← hl]
      exact Option.some.inj h1
    exact subscriptTail_builtinR (x := w) pl.isList.typeIs slot_list_getitem.lookup
      (wpAny_getItem_list_neg (Q := fun r s' => r = w ∧ EP X pins σ Q r s') pl.isList (by omega) (by rw [List.size_toArray] <;> omega) (by omega) (by rw [hj]; simpa using ew) ⟨rfl, fin⟩) hs
theorem ix_tup : IxR X (rIxT X.K) := by
  intro value slice pins s σ H x y v u Q I rx ry h hs
  obtain ⟨p, xs, i, z, rfl, rfl, hq, he, q⟩ := h
  cases rx
  obtain ⟨t, rfl⟩ := ry
  obtain ⟨its, r, pl, hz⟩ := I.tuple hq
  obtain ⟨j, h1, h2, h3, h4, h5⟩ := atI_get he
  obtain ⟨w, ew, rw'⟩ := r.get h2
  have hl := r.length
  have hn := line63
  have fin : EP X pins σ Q w s := ⟨z, H, I, rw', q⟩
  exact subscriptTail_builtinR (x := w) pl.typeIs slot_tuple_getitem.lookup
    (getItem_tuple (j := j) (Q := fun r s' => r = w ∧ EP X pins σ Q r s') pl (by omega) (by omega) (by rw [List.size_toArray, ← hl]; exact h1) (by simpa using ew) ⟨rfl, fin⟩) hs
theorem ix_str : IxR X rIxS := by
  intro value slice pins s σ H x y v u Q I rx ry h hs
  obtain ⟨z, i, c, rfl, rfl, hz, he, q⟩ := h
  obtain ⟨t, rfl⟩ := rx
  obtain ⟨t', rfl⟩ := ry
  obtain ⟨j, h1, h2, h3, h4, h5⟩ := atI_get he
  have hl : z.cps.toList.length = z.length := by simp [Str.length]
  rw [hl] at h1 h4 h5
  have hn := line63
  exact tail_any (typeIs_str s z t) slot_str_getitem.lookup (getItem_str (c := c) (by
    have e1 : decide (i < -(2 ^ 63 : Int)) = false := decide_eq_false (by omega)
    have e2 : decide (i ≥ 2 ^ 63) = false := decide_eq_false (by omega)
    rw [e1, e2, Bool.or_false]) (by rw [h1]; simpa using h2) ⟨.str ⟨#[c]⟩, H, I.tok _, ⟨_, rfl⟩, q⟩) hs
/-- the list's object behind a store -/
theorem mapSeq_set (its : List Value) (n j : Nat) (u : Value) : Obj.mapSeq (·.setIfInBounds j u) { cls := .type "list", data := .seq its.toArray n } = { cls := .type "list", data := .seq (its.set j u).toArray n } := by
  simp [Obj.mapSeq]
theorem Inv.lst {pins : List (Addr × Obj)} {σ : St} {H : Hp} {s : Shared} {p : Addr} {xs : List V} (I : Inv X pins σ H s) (h : H p = some (.lst xs)) :
    ∃ (its : List Value) (n : Nat), Vals xs its ∧ s.heap.get? p = some { cls := .type "list", data := .seq its.toArray n } ∧ xs.length ≤ sizeLine := by
  obtain ⟨z, its, n, r, e⟩ := I.hok p _ h
  exact ⟨its, n, r, e, z⟩
/-- the list at p is written by an update of its object -/
theorem Inv.lstUpd {pins : List (Addr × Obj)} {σ : St} {H : Hp} {s : Shared} {p : Addr} {xs ys : List V} {its its' : List Value} {n n' : Nat} {f : Obj → Obj} (I : Inv X pins σ H s) (h : H p = some (.lst xs))
    (ho : s.heap.get? p = some { cls := .type "list", data := .seq its.toArray n }) (hf : f { cls := .type "list", data := .seq its.toArray n } = { cls := .type "list", data := .seq its'.toArray n' }) (r : Vals ys its') (hz : ys.length ≤ sizeLine) (t : Nat) :
    Inv X pins σ (upd H p (.lst ys)) { s with heap := s.heap.update p f, toks := t } := by
  have e : (s.heap.update p f).get? p = some { cls := .type "list", data := .seq its'.toArray n' } := by
    rw [Heap.get?_update_self f ho (by rw [hf] <;> rfl), hf]
  refine I.write (x := p) (e := p) (by rw [h]; trivial) (.inl rfl) (fun b u hb q => (Heap.get?_update_other _ _ (Ne.symm hb)).trans q) ⟨_, e⟩ ?_
  exact ⟨hz, its', n', r, e⟩
def rSetL : V → V → V → Hp → (Hp → Prop) → Prop := fun o i v H Q => ∃ p xs k j, o = .ref p ∧ i = .int k ∧ H p = some (.lst xs) ∧ ixN xs.length k = some j ∧ Q (upd H p (.lst (xs.set j v)))
theorem set_list : PSet X rSetL := by
  intro pins s σ H o i v ov iv u Q I ro ri rv h
  obtain ⟨p, xs, k, j, rfl, rfl, hp, hj, q⟩ := h
  cases ro
  obtain ⟨t, rfl⟩ := ri
  obtain ⟨its, n, r, ho, hz⟩ := I.lst hp
  obtain ⟨h1, h2, h3, h4⟩ := ixN_seq hj
  have hl := r.length
  have hn := line63
  have I' : Inv X pins σ (upd H p (.lst (xs.set j v))) { s with heap := s.heap.update p (Obj.mapSeq (·.setIfInBounds j u)) } :=
    I.lstUpd hp ho (mapSeq_set its n j u) (r.set rv j) (by rw [List.length_set]; exact hz) s.toks
  by_cases h0 : 0 ≤ k
  · have hk : k.toNat = j := by
      rw [seqIndex_of h0 h4] at h1
      exact Option.some.inj h1
    exact PySem.W.ki_setAt ho h0 (by omega) (by rw [List.size_toArray, ← hl]; exact h4) (by rw [hk]; exact ⟨_, I', q⟩)
  · have hk : (k + (its.toArray.size : Int)).toNat = j := by
      rw [seqIndex_neg (by omega) h3] at h1
      rw [List.size_toArray, ← hl]
      exact Option.some.inj h1
    exact PySem.W.ki_setBack ho (by omega) (by rw [List.size_toArray, ← hl]; exact h3) (by omega) (by rw [hk]; exact ⟨_, I', q⟩)

def flatV : V → Bool
  | .non => true
  | .bl _ => true
  | .int _ => true
  | .str _ => true
  | _ => false
/-- == of flat values -/
def eqV : V → V → Bool
  | .non, .non => true
  | .bl a, .bl b => a == b
  | .bl a, .int b => (if a then 1 else 0) == b
  | .int a, .bl b => a == (if b then 1 else 0)
  | .int a, .int b => a == b
  | .str a, .str b => a == b
  | _, _ => false
theorem eqAt_V {A : Around} {s : Shared} {y x : V} {u v : Value} (ry : RelV y u) (rx : RelV x v) (fy : flatV y = true) (fx : flatV x = true) : SeqAt.EqAt A s u v (eqV y x) := by
  cases y with
  | non =>
    cases ry
    cases x with
    | non => cases rx; exact SeqAt.EqAt.same _
    | bl b => cases rx; exact SeqAt.EqAt.none_bool b
    | int b => obtain ⟨t, rfl⟩ := rx; exact SeqAt.EqAt.none_int b t
    | str b => obtain ⟨t, rfl⟩ := rx; exact SeqAt.EqAt.none_str b t
    | _ => exact absurd (show false = true from fx) Bool.false_ne_true
  | bl a =>
    cases ry
    cases x with
    | non => cases rx; exact SeqAt.EqAt.bool_none a
    | bl b => cases rx; exact SeqAt.EqAt.bool_bool a b
    | int b => obtain ⟨t, rfl⟩ := rx; exact SeqAt.EqAt.bool_int a b t
    | str b => obtain ⟨t, rfl⟩ := rx; exact SeqAt.EqAt.bool_str a b t
    | _ => exact absurd (show false = true from fx) Bool.false_ne_true
  | int a =>
    obtain ⟨t', rfl⟩ := ry
    cases x with
    | non => cases rx; exact SeqAt.EqAt.int_none a t'
    | bl b => cases rx; exact SeqAt.EqAt.int_bool a t' b
    | int b => obtain ⟨t, rfl⟩ := rx; exact SeqAt.EqAt.int_int a t' b t
    | str b => obtain ⟨t, rfl⟩ := rx; exact SeqAt.EqAt.int_str a t' b t
    | _ => exact absurd (show false = true from fx) Bool.false_ne_true
  | str a =>
    obtain ⟨t', rfl⟩ := ry
    cases x with
    | non => cases rx; exact SeqAt.EqAt.str_none a t'
    | bl b => cases rx; exact SeqAt.EqAt.str_bool a t' b
    | int b => obtain ⟨t, rfl⟩ := rx; exact SeqAt.EqAt.str_int a t' b t
    | str b => obtain ⟨t, rfl⟩ := rx; exact SeqAt.EqAt.str_str a t' b t
    | _ => exact absurd (show false = true from fx) Bool.false_ne_true
  | _ => exact absurd (show false = true from fy) Bool.false_ne_true
/-- the items' answers, read off the values (a value's own answer does not lean on its token) -/
def eqU (x : V) (u : Value) : Bool := match u with
  | .none => eqV .non x
  | .bool b => eqV (.bl b) x
  | .int i _ => eqV (.int i) x
  | .str z _ => eqV (.str z) x
  | _ => false
theorem eqU_of {x y : V} {u : Value} (r : RelV y u) (f : flatV y = true) : eqU x u = eqV y x := by
  cases y with
  | non => cases r; rfl
  | bl b => cases r; rfl
  | int i => obtain ⟨t, rfl⟩ := r; rfl
  | str z => obtain ⟨t, rfl⟩ := r; rfl
  | _ => exact absurd (show false = true from f) Bool.false_ne_true
theorem any_eqU {x : V} : ∀ {xs : List V} {us : List Value}, Vals xs us → xs.all flatV = true → us.any (eqU x) = xs.any fun y => eqV y x
  | _, _, .nil, _ => rfl
  | y :: xs, u :: us, .cons r t, f => by
    rw [List.all_cons, Bool.and_eq_true] at f
    rw [List.any_cons, List.any_cons, eqU_of r f.1, any_eqU t f.2]
theorem mem_eqAt {A : Around} {s : Shared} {x : V} {v : Value} (rx : RelV x v) (fx : flatV x = true) : ∀ {xs : List V} {us : List Value}, Vals xs us → xs.all flatV = true → ∀ u ∈ us, SeqAt.EqAt A s u v (eqU x u)
  | _, _, .nil, _ => fun u hu => by cases hu
  | y :: xs, u :: us, .cons r t, f => fun u' hu => by
    rw [List.all_cons, Bool.and_eq_true] at f
    rcases List.mem_cons.mp hu with rfl | hu
    · rw [eqU_of r f.1]; exact eqAt_V r rx f.1 fx
    · exact mem_eqAt rx fx t f.2 u' hu
def inV (x : V) (xs : List V) : Bool := xs.any fun y => eqV y x
/-- x in a list or tuple of flat items -/
def rIn (K : PySem.W.Frag) (neg : Bool) : R2 := fun x y H Q => ∃ p xs, y = .ref p ∧ (SqL K H p xs ∨ SqT K H p xs) ∧ flatV x = true ∧ xs.all flatV = true ∧ Q (.bl (if neg then !inV x xs else inV x xs)) H
theorem op_in_seq : OpR X (compareOp .In) (rIn X.K false) := by
  intro pins s σ H x y v u Q I rx ry h
  obtain ⟨p, xs, rfl, hq, fx, fs, q⟩ := h
  cases ry
  rcases hq with hq | hq
  · obtain ⟨its, r, pl, hz⟩ := I.list hq
    refine SeqAt.in_listAt (eqU x) pl.isList (fun w hw => mem_eqAt rx fx r fs w (by simpa using hw)) ⟨.bl _, H, I, rfl, ?_⟩
    rw [show its.toArray.any (eqU x) = its.any (eqU x) by simp, any_eqU r fs]
    exact q
  · obtain ⟨its, r, pl, hz⟩ := I.tuple hq
    refine SeqAt.in_tupleAt (eqU x) pl (fun w hw => mem_eqAt rx fx r fs w (by simpa using hw)) ⟨.bl _, H, I, rfl, ?_⟩
    rw [show its.toArray.any (eqU x) = its.any (eqU x) by simp, any_eqU r fs]
    exact q
theorem call_len_seq : CallR X (.builtin "len") (fun xs H Q => ∃ p ys, xs = [.ref p] ∧ (SqL X.K H p ys ∨ SqT X.K H p ys) ∧ Q (.int ys.length) H) := by
  intro pins s σ H xs us Q I r h
  obtain ⟨p, ys, rfl, hq, q⟩ := h
  obtain ⟨u, rfl, rx⟩ := vals1 r
  cases rx
  have hn := line63
  rcases hq with hq | hq
  · obtain ⟨its, r', pl, hz⟩ := I.list hq
    have hlen := r'.length
    exact Calls.call_len_list pl.isList (by simp only [List.size_toArray] <;> omega) ⟨.int ys.length, H, I.tok _, ⟨s.toks + 1, by rw [List.size_toArray, hlen]⟩, q⟩
  · obtain ⟨its, r', pl, hz⟩ := I.tuple hq
    have hlen := r'.length
    exact len_tuple pl (by simp only [List.size_toArray] <;> omega) ⟨.int ys.length, H, I.tok _, ⟨s.toks + 1, by rw [List.size_toArray, hlen]⟩, q⟩
theorem call_len_str : CallR X (.builtin "len") (fun xs H Q => ∃ z, xs = [.str z] ∧ z.length ≤ sizeLine ∧ Q (.int z.length) H) := by
  intro pins s σ H xs us Q I r h
  obtain ⟨z, rfl, hz, q⟩ := h
  obtain ⟨u, rfl, t, rfl⟩ := vals1 r
  have hn := line63
  exact len_str (by omega) ⟨.int z.length, H, I.tok _, ⟨_, rfl⟩, q⟩
theorem CallR.or {f : Value} {r r' : List V → Hp → VK → Prop} (h : CallR X f r) (h' : CallR X f r') : CallR X f (fun xs H Q => r xs H Q ∨ r' xs H Q) := by
  intro pins s σ H xs us Q I rs q
  rcases q with q | q
  · exact h pins s σ H xs us Q I rs q
  · exact h' pins s σ H xs us Q I rs q
/-- the value is of that builtin type -/
def tyV (K : PySem.W.Frag) (T : String) (x : V) (H : Hp) : Prop := match x with
  | .str _ => T = "str"
  | .int _ => T = "int"
  | .ref p => (T = "list" ∧ ∃ xs, SqL K H p xs) ∨ (T = "tuple" ∧ ∃ o, K.lookup p = some o ∧ o.cls = .type "tuple" ∧ o.dict = none) ∨
      (T = "dict" ∧ ((∃ kvs, H p = some (.dK kvs)) ∨ ∃ kvs, H p = some (.dT kvs))) ∨ (T = "set" ∧ ∃ S n, H p = some (.set S n))
  | _ => False
theorem tyV_is {pins : List (Addr × Obj)} {σ : St} {H : Hp} {s : Shared} {T : String} {x : V} {v : Value} (I : Inv X pins σ H s) (r : RelV x v) (ty : tyV X.K T x H) :
    s.TypeIs v T ∧ ∀ a, v = .ref a → ∃ ob, s.heap.get? a = some ob ∧ ob.dict = none := by
  cases x with
  | str z =>
    obtain ⟨t, rfl⟩ := r
    cases (show T = "str" from ty)
    exact ⟨typeIs_str s z t, fun _ e => nomatch e⟩
  | int i =>
    obtain ⟨t, rfl⟩ := r
    cases (show T = "int" from ty)
    exact ⟨typeIs_int s i t, fun _ e => nomatch e⟩
  | ref p =>
    cases r
    rcases ty with ⟨rfl, xs, hq⟩ | ⟨rfl, o, hk, hc, hd⟩ | ⟨rfl, hk⟩ | ⟨rfl, S, n, hk⟩
    · obtain ⟨its, _, pl, _⟩ := I.list hq
      refine ⟨pl.isList.typeIs, fun a e => ?_⟩
      cases e
      obtain ⟨o, n, e, c, hd, _⟩ := pl
      exact ⟨o, e, hd⟩
    · refine ⟨⟨o, I.kIn p o hk, hc⟩, fun a e => ?_⟩
      cases e
      exact ⟨o, I.kIn _ o hk, hd⟩
    · have z : ∃ o, s.heap.get? p = some o ∧ o.ExactDict := by
        rcases hk with ⟨kvs, hk⟩ | ⟨kvs, hk⟩
        · obtain ⟨_, _, _, _, o, _, _, e, ex, _⟩ := I.hok p _ hk
          exact ⟨o, e, ex⟩
        · obtain ⟨_, _, _, _, o, _, _, e, ex, _⟩ := I.hok p _ hk
          exact ⟨o, e, ex⟩
      obtain ⟨o, e, ex⟩ := z
      refine ⟨⟨o, e, ex.1⟩, fun a e2 => ?_⟩
      cases e2
      exact ⟨o, e, ex.2.1⟩
    · obtain ⟨o, _, _, _, e, ex, _⟩ := I.hok p _ hk
      refine ⟨⟨o, e, ex.1⟩, fun a e2 => ?_⟩
      cases e2
      exact ⟨o, e, ex.2.1⟩
  | _ => exact False.elim ty
def tBM0 (K : PySem.W.Frag) (T : String) (r : V → List V → Hp → VK → Prop) (to : TE) : TE := fun σ H Q => to σ H fun x H1 => tyV K T x H1 ∧ r x [] H1 Q
def tBM (K : PySem.W.Frag) (T : String) (r : V → List V → Hp → VK → Prop) (to : TE) (t : TA) : TE := fun σ H Q => to σ H fun x H1 => tyV K T x H1 ∧ t σ H1 fun xs H2 => r x xs H2 Q
variable {o e : Expr} {es : List Expr} {to : TE} {t : TA} {name : Str} {apos cpos : Pos} {T id : String} {r : V → List V → Hp → VK → Prop}
end
end L2

namespace L2
open PySem PySem.Spec PyProof.Rows

def MtM (X : Cx) (id : String) (r : V → List V → Hp → VK → Prop) : Prop :=
  ∀ (pins : List (Addr × Obj)) (s : Shared) (σ : St) (H : Hp) (x : V) (xs : List V) (v : Value) (us : List Value) (Q : VK), Inv X pins σ H s → RelV x v → Vals xs us → r x xs H Q →
    wpAny (model X.prog X.w) X.A (call (.builtin id) (v :: us)) (EP X pins σ Q) X.xe s

theorem Vals.one : ∀ {x : V} {us : List Value}, Vals [x] us → ∃ u, us = [u] ∧ RelV x u
  | _, _, .cons r .nil => ⟨_, rfl, r⟩
theorem Vals.two : ∀ {x y : V} {us : List Value}, Vals [x, y] us → ∃ u v, us = [u, v] ∧ RelV x u ∧ RelV y v
  | _, _, _, .cons r (.cons q .nil) => ⟨_, _, rfl, r, q⟩
theorem Vals.zero : ∀ {us : List Value}, Vals [] us → us = []
  | _, .nil => rfl
theorem Vals.dropLast {xs : List V} {us : List Value} (h : Vals xs us) : Vals xs.dropLast us.dropLast := by
  induction h with
  | nil => exact .nil
  | cons r t ih =>
    cases t with
    | nil => exact .nil
    | cons q t' => exact .cons r ih
theorem Vals.eraseIdx : ∀ {xs : List V} {us : List Value} (i : Nat), Vals xs us → Vals (xs.eraseIdx i) (us.eraseIdx i)
  | _, _, _, .nil => .nil
  | _, _, 0, .cons _ t => t
  | _, _, i + 1, .cons r t => .cons r (Vals.eraseIdx i t)
theorem Vals.reverse {xs : List V} {us : List Value} (h : Vals xs us) : Vals xs.reverse us.reverse := by
  induction h with
  | nil => exact .nil
  | cons r t ih => rw [List.reverse_cons, List.reverse_cons]; exact Vals.append ih (.cons r .nil)
theorem erase_last {α : Type} (l : List α) : l.eraseIdx (l.length - 1) = l.dropLast := by
  induction l with
  | nil => rfl
  | cons a r ih =>
    cases r with
    | nil => rfl
    | cons b r =>
      have e : (a :: b :: r).length - 1 = ((b :: r).length - 1) + 1 := by
        have h1 : (a :: b :: r).length = r.length + 2 := rfl
        have h2 : (b :: r).length = r.length + 1 := rfl
        omega
      rw [e, List.eraseIdx_cons_succ, ih]
      all_goals rfl
section
variable {X : Cx} {pins : List (Addr × Obj)} {σ : St} {H : Hp} {s : Shared} {l b : Addr} {xs ys zs : List V}

theorem Inv.lset {its its' : List Value} {n : Nat} {f : Array Value → Array Value} {t' : Nat} (I : Inv X pins σ H s) (hH : H l = some (.lst xs))
    (e : s.heap.get? l = some { cls := .type "list", data := .seq its.toArray n }) (hf : f its.toArray = its'.toArray) (hv : Vals ys its') (hz : ys.length ≤ sizeLine) :
    Inv X pins σ (upd H l (.lst ys)) { s with heap := s.heap.update l (Obj.mapSeq f), toks := t' } := by
  have q := PySem.IsL.update e f
  rw [hf] at q
  refine I.write (x := l) (e := l) (by rw [hH]; exact trivial) (.inl rfl) (fun b' u hb hu => (Heap.get?_update_other s.heap (Obj.mapSeq f) (Ne.symm hb)).trans hu) ⟨_, q⟩ ?_
  exact ⟨hz, its', _, hv, q⟩
theorem Inv.lnew {its : List Value} {t' : Nat} (I : Inv X pins σ H s) (hv : Vals ys its) (hz : ys.length ≤ sizeLine) :
    Inv X pins σ (upd H s.heap.objs.size (.lst ys)) { s with heap := s.heap.push { cls := .type "list", data := .seq its.toArray }, toks := t' } :=
  I.laid (fun _ _ q => Heap.get?_push_of_some _ q) (Nat.le_refl _) ⟨hz, its, 0, hv, Heap.get?_push_size _ rfl⟩
theorem Inv.fresh (I : Inv X pins σ H s) : H s.heap.objs.size = none := I.hok.fresh (Nat.le_refl _)
theorem Inv.lstM (I : Inv X pins σ H s) (hH : H l = some (.lst xs)) : xs.length ≤ sizeLine ∧ ∃ (its : List Value) (n : Nat), Vals xs its ∧ xs.length = its.length ∧ s.heap.get? l = some { cls := .type "list", data := .seq its.toArray n } := by
  obtain ⟨z, its, n, r, e⟩ := I.hok l _ hH
  exact ⟨z, its, n, r, r.length, e⟩

end

section
variable {X : Cx}

def rAppend : V → List V → Hp → VK → Prop := fun x vs H Q => ∃ l xs y, x = .ref l ∧ vs = [y] ∧ H l = some (.lst xs) ∧ xs.length < sizeLine ∧ Q .non (upd H l (.lst (xs ++ [y])))
theorem mt_append : MtM X "list.append" rAppend := by
  intro pins s σ H x vs v us Q I rx rv h
  obtain ⟨l, xs, y, rfl, rfl, hH, hz, q⟩ := h
  cases rx
  obtain ⟨u, rfl, ru⟩ := rv.one
  obtain ⟨z, its, n, r, hl, e⟩ := I.lstM hH
  refine call_meets F.slot_list_append ⟨_, e, rfl⟩ F.entry_list_append (F.args_list_append_2 _ _) (PySem.list_append l its.toArray n u (by rw [List.size_toArray]; omega)) ⟨e, ?_⟩
  refine ⟨.non, _, I.lset (its' := its ++ [u]) hH e (by simp) (r.append (.cons ru .nil)) ?_, rfl, q⟩
  rw [List.length_append, List.length_singleton]
  omega

def rPop : V → List V → Hp → VK → Prop := fun x vs H Q => ∃ l xs y, x = .ref l ∧ vs = [] ∧ H l = some (.lst xs) ∧ xs[xs.length - 1]? = some y ∧ Q y (upd H l (.lst xs.dropLast))
theorem mt_pop : MtM X "list.pop" rPop := by
  intro pins s σ H x vs v us Q I rx rv h
  obtain ⟨l, xs, y, rfl, rfl, hH, hy, q⟩ := h
  cases rx
  have hus := rv.zero
  subst hus
  obtain ⟨z, its, n, r, hl, e⟩ := I.lstM hH
  obtain ⟨u, hu, ru⟩ := r.get hy
  have hy' : its.toArray[its.toArray.size - 1]? = some u := by
    show its.toArray[its.length - 1]? = some u
    rw [← Array.getElem?_toList, ← hl]
    exact hu
  refine call_meets F.slot_list_pop ⟨_, e, rfl⟩ F.entry_list_pop (F.args_list_pop_1 _) (MeetsSeq.list_pop_last l its.toArray n u hy' (by rw [List.size_toArray]; omega)) ⟨e, ?_⟩
  refine ⟨y, _, I.lset (its' := its.dropLast) hH e ?_ r.dropLast ?_, ru, q⟩
  · show its.toArray.eraseIdxIfInBounds (its.toArray.size - 1) = its.dropLast.toArray
    rw [List.size_toArray, List.eraseIdxIfInBounds_toArray, erase_last]
  · rw [List.length_dropLast]
    omega

def rCat : R2 := fun x y H Q => ∃ l b xs zs, x = .ref l ∧ y = .ref b ∧ H l = some (.lst xs) ∧ H b = some (.lst zs) ∧ xs.length + zs.length ≤ sizeLine ∧ ∀ p, H p = none → Q (.ref p) (upd H p (.lst (xs ++ zs)))
theorem op_cat : OpR X (binaryOp .Add) rCat := by
  intro pins s σ H x y v u Q I rx ry h
  obtain ⟨l, b, xs, zs, rfl, rfl, hH, hB, hz, q⟩ := h
  cases rx
  cases ry
  obtain ⟨z, its, n, r, hl, e⟩ := I.lstM hH
  obtain ⟨z2, its2, n2, r2, hl2, e2⟩ := I.lstM hB
  refine PySem.P.add_list e e2 ?_ (by rw [List.size_toArray, List.size_toArray]; omega)
  have ea : its.toArray ++ its2.toArray = (its ++ its2).toArray := by simp
  rw [ea]
  exact ⟨.ref _, _, I.lnew (t' := s.toks) (r.append r2) (by rw [List.length_append]; omega), rfl, q _ I.fresh⟩
end

section
variable {prog : Program} {w : World} {A : Around} {E : Value → Shared → Prop} {s : Shared}
end

section
variable {X : Cx}
end
end L2

namespace Att
open PySem PySem.W PySem.Calls PyProof.Rows

theorem ints_of_wellAll {P : Params} {h : Heap} : ∀ (ns : List Int) (vs : List Value), WellAll P h vs (ns.map WData.int) → IntsAre vs ns := by
  intro ns
  induction ns with
  | nil =>
    intro vs w
    rw [List.map_nil] at w
    cases w
    exact .nil
  | cons n ns ih =>
    intro vs w
    rw [List.map_cons] at w
    cases w with
    | cons a b =>
      cases a
      exact .cons _ _ (ih _ b)

theorem script_of {l : OpenLaw} {n : Nat} (hn : l.most = some n) {P : Params} {h : Heap} {args : List WData} {vals : List Value}
    (hpre : l.row.toRowW.claim.pre args = true) (hwl : WellAll P h vals args) :
    ∃ a vs ns, vals = [Value.ref a] ∧ args = [WData.list (ns.map WData.int)] ∧ h.get? a = some { cls := .type "list", data := .seq vs.toArray } ∧ IntsAre vs ns ∧ ns.length ≤ n := by
  have hsh : WShape.hasAll [] args [.list .int] = true := (pre_splitW hpre).1
  have hc : l.pre.holds [] { args := args } = true := (pre_splitW hpre).2
  obtain ⟨d, r, rfl, h1, h2⟩ := hasAllW_cons hsh
  obtain rfl := hasAllW_nil h2
  obtain ⟨xs, rfl, h3⟩ := hasW_list h1
  obtain ⟨ns, rfl⟩ := items_int h3
  have hlen : ns.length ≤ n := by
    unfold OpenLaw.pre at hc
    have h4 : (WTm.not (.lt (.lit (.int (n : Int))) (.len (.arg 0)))).holds [] { args := [.list (ns.map .int)] } = true := by
      have h4 := (holds_andW hc).1
      rw [hn] at h4
      exact h4
    have h5 := condW_of h4 (w_not (w_lt w_lit (w_len_list (w_arg rfl))))
    rw [List.length_map] at h5
    refine Nat.le_of_not_lt fun q => ?_
    have q' : (n : Int) < ((ns.length : Nat) : Int) := by omega
    first
      | (rw [decide_eq_true q'] at h5; exact absurd h5 (by decide))
      | (simp at h5; omega)
  cases hwl with
  | cons w1 w2 =>
    cases w2
    cases w1 with
    | list ho hall => exact ⟨_, _, ns, rfl, rfl, ho, ints_of_wellAll ns _ hall, hlen⟩

theorem post_true (l : OpenLaw) (args : List WData) : l.row.toRowW.claim.post args (.bool true) args = true :=
  postW_of (r := l.row.toRowW) (X := (true == true))
    (show WShape.has [] (.bool true) .bool = true by first | rfl | decide | simp [WShape.has, WShape.arms, WShape.armsAll])
    (show (WTm.eq .res (.lit (.bool true))).value [] { args := args, res := some (.bool true), after := args } = some (.bool (true == true)) from w_eq_bool (w_res rfl) w_lit) rfl

/-- the same from a codeAny of the CALL (for a layer whose function contracts speak of calls) -/
theorem attach_call {l : OpenLaw} {n : Nat} {q : Program} {loose : List Str} {XP : (Str → Option Value) → Heap → Prop} {YP : World → Heap → Prop} {d : DefRec}
    (hn : l.most = some n) (hdf : d.params.defaults = [])
    (call : ∀ (w : World) (s₀ s₁ : Shared) (mg mb : Str → Option Value) (fa : Addr) (o : Obj) (pm cd doc : Value) (a : Addr) (vs : List Value) (ns : List Int),
      Ground q loose [] XP w s₀ mg mb s₁.heap → YP w s₁.heap →
      s₁.heap.get? fa = some o → o.data = .func (docDef d.name d.params d.body d.scope pm cd doc) → s₁.heap.CodeRec cd d.name → mg d.name = some (.ref fa) →
      s₁.heap.get? a = some { cls := .type "list", data := .seq vs.toArray } → IntsAre vs ns → ns.length ≤ n → s₁.gens = #[] →
      codeAny (model l.prog w) callerA (.call (.ref fa) ⟨[.ref a], []⟩) (fun r s' => r = .ok (.ret (.bool true)) ∧ OldK s₁.heap s'.heap ∧ s'.os = s₁.os ∧ AllBare s'.gens) s₁) :
    WalkO q loose XP YP l.row.toRowW d [] (fun f vs => PySem.call f vs) := by
  intro w s₀ s₁ mg mb G Y fa o pm cd doc dV kV ho hd hcd hD hmg hg args vals as hpre hlay hrd hwl hlo
  obtain rfl : dV = .none := Dflts.none hD hdf
  obtain rfl : kV = .none := Dflts.noKw hD
  obtain ⟨a, vs, ns, rfl, rfl, hobj, hints, hlen⟩ := script_of hn hpre hwl
  refine enter_call (codeAny_mono (call w s₀ s₁ mg mb fa o pm cd doc a vs ns G Y ho (fd_plain hd) hcd hmg hobj hints hlen hg) fun r s' hq => ?_)
  obtain ⟨rfl, h2, h3, h4⟩ := hq
  exact ⟨.inl ⟨.bool true, .bool true, [], rfl, fun _ => rfl, .bool true, post_true l _, fun _ => ⟨List.Pairwise.nil, fun _ hm => (nomatch hm)⟩⟩, h2, h3, h4⟩

section
variable {prog : Program} {w : World} {A : Around} {E : Value → Shared → Prop} {s : Shared} {K : Frag}

end
end Att

namespace L2
open PySem PySem.Spec PyProof.Rows

theorem vals_ints : ∀ {vs : List Value} {ns : List Int}, IntsAre vs ns → Vals (ns.map V.int) vs
  | _, _, .nil => .nil
  | _, _, .cons n t h => .cons ⟨t, rfl⟩ (vals_ints h)

/-- nothing is tracked but the script, known to the object (or it is an object of the module) -/
def Only (H : Hp) : Prop := ∀ b, H b = none ∨ ∃ o xs, H b = some (.frz o (.lst xs))

/-- THE HEAD: the law's promise, at the heap behind the top. F, the promise of the law's def, may use that base is part of the heap (so K.In base, base.Ns mainGlobals mg stand in Mod) -/
theorem law_call {P : Program} {w : World} {K : PySem.W.Frag} {mg mb : Str → Option Value} {CX : CXT} {k : Nat} {fa a : Addr} {fd : FuncData} {x : Str} {sp : Sp} {s₁ : Shared} {vs : List Value} {ns : List Int}
    (KX : K.In s₁.heap) (hns : s₁.heap.Ns mainGlobals mg) (hb : s₁.heap.Ns builtinsNs mb) (hbb : ∀ x : Str, x ≠ "__name__" → mb x = bootBuiltins x) (hlim : s₁.heap.NoLimit) (hg : s₁.gens = #[])
    (ha : s₁.heap.get? a = some { cls := .type "list", data := .seq vs.toArray }) (hi : IntsAre vs ns) (hl : ns.length ≤ sizeLine) (hr : Room k callerA)
    (F : ∀ base : Heap, K.In base → base.Ns mainGlobals mg → FnOk P w K mg base CX k fa fd [x] sp) (hbind : ∀ (s : Shared) (u : Value), BindsTo s fd ⟨[u], []⟩ [(x, u)])
    (hsp : ∀ H : Hp, Only H → SqL K H a (ns.map V.int) → sp [.ref a] H (fun v _ => v = .bl true) fun _ _ _ => False)
    (hCX : ∀ H e s', CX [] H s₁ (fun _ _ _ => False) e s' → False) :
    codeAny (model P w) callerA (.call (.ref fa) ⟨[.ref a], []⟩) (fun r s' => r = .ok (.ret (.bool true)) ∧ OldK s₁.heap s'.heap ∧ s'.os = s₁.os ∧ AllBare s'.gens) s₁ := by
  have rv := vals_ints hi
  have lenV := hi.length
  -- from an abstract heap in which nothing but the script may be tracked
  have core : ∀ H : Hp, Only H → SqL K H a (ns.map V.int) → HOk P w H s₁.heap → (∀ b, H b ≠ none → b = a) → (H a ≠ none → K.lookup a = none) →
      codeAny (model P w) callerA (.call (.ref fa) ⟨[.ref a], []⟩) (fun r s' => r = .ok (.ret (.bool true)) ∧ OldK s₁.heap s'.heap ∧ s'.os = s₁.os ∧ AllBare s'.gens) s₁ := by
    intro H hO hS hok hA hK
    have base_of : ∀ {b : Addr} {o : Obj}, s₁.heap.get? b = some o → H b = none → (hidT s₁.heap H).get? b = some o := fun e n => hidT_get e n
    have noA : ∀ {b : Addr} {o : Obj} {es : Array DictEntry} {ep : Nat}, s₁.heap.get? b = some o → o.data = .dict es ep → H b = none := fun {b o es ep} e d => by
      cases q : H b with
      | none => rfl
      | some u =>
        have e' : b = a := hA b (by rw [q]; simp)
        subst e'
        rw [ha] at e; cases e
        have d' : Data.seq vs.toArray _ = Data.dict es ep := d
        cases d'
    have nsK : ∀ {b : Addr} {m : Str → Option Value}, s₁.heap.Ns b m → (hidT s₁.heap H).Ns b m := fun {b m} ⟨o, es, ep, e, d, r⟩ => ⟨o, es, ep, base_of e (noA e d), d, r⟩
    have hKb : K.In (hidT s₁.heap H) := fun b o e => base_of (KX b o e) (by
      cases q : H b with
      | none => rfl
      | some u =>
        have e' : b = a := hA b (by rw [q]; simp)
        subst e'
        rw [hK (by rw [q]; simp)] at e; cases e)
    have hM : Mod K mg (hidT s₁.heap H) := ⟨hKb, nsK hns, ⟨mb, nsK hb, hbb⟩, let ⟨mc, h1, h2⟩ := hlim; ⟨mc, nsK h1, h2⟩⟩
    have e0 : Env0 P w K mg (hidT s₁.heap H) callerA [] s₁ H := ⟨rfl, hM, fun b o e => of_hidT e, Nat.le_of_eq (hidT_size _ _), trivial, fun b hb => absurd (show b ∈ ([] : List Addr) from hb) (by simp), hok, .of_eq hg⟩
    refine codeAny_mono ((F _ hKb (nsK hns)).run callerA [] s₁ H ⟨[.ref a], []⟩ [.ref a] [.ref a] _ _ hr e0 (hbind s₁ (.ref a)) (.cons rfl .nil) (hsp H hO hS)) fun r s' h => ?_
    cases r with
    | error e => exact (hCX H e s' h).elim
    | ok fl =>
      cases fl with
      | next => exact False.elim h
      | brk => exact False.elim h
      | cont => exact False.elim h
      | ret u =>
        obtain ⟨v, H', os, bare, un, hok', r', q⟩ := h
        have q' : v = .bl true := q
        subst q'
        obtain rfl : u = Value.bool true := r'
        refine ⟨rfl, OldK.of_keep fun b o e => ?_, os, bare⟩
        cases q : H b with
        | none => exact un.keep b o e q (by intro z; exact absurd (show b ∈ ([] : List Addr) from z) (by simp)) (by simp)
        | some u =>
          rcases hO b with z | ⟨ob, xs, z⟩
          · rw [q] at z; cases z
          · have z2 := un.frzs b ob _ z
            obtain ⟨e1, _⟩ := hok b _ z
            obtain ⟨e2, _⟩ := hok' b _ z2
            rw [e] at e1; cases e1
            exact e2
  cases hk : K.lookup a with
  | some o =>
    -- the script is one of the module's own objects
    have e := KX a o hk
    rw [ha] at e
    cases e
    refine core (fun _ => none) (fun _ => .inl rfl) (.inr ⟨_, vs.toArray, _, hk, rfl, rfl, rfl, by rw [List.size_toArray, lenV]; exact hl, by simpa using rv⟩) (fun b u z => by have z' : (none : Option HO) = some u := z; cases z') (fun b z => absurd rfl z) fun z => absurd rfl z
  | none =>
    refine core (fun b => if b = a then some (.frz { cls := .type "list", data := .seq vs.toArray } (.lst (ns.map V.int))) else none) (fun b => ?_) (.inl (.inr ⟨{ cls := .type "list", data := .seq vs.toArray }, if_pos rfl⟩)) (fun b u z => ?_) (fun b z => ?_) fun _ => hk
    · by_cases hb : b = a
      · exact .inr ⟨_, _, if_pos hb⟩
      · exact .inl (if_neg hb)
    · by_cases hb : b = a
      · have z' := (if_pos hb).symm.trans z
        cases z'
        subst hb
        exact ⟨ha, by rw [List.length_map]; exact hl, vs, _, rv, ha⟩
      · have z' := (if_neg hb).symm.trans z
        cases z'
    · by_cases hb : b = a
      · exact hb
      · exact absurd (if_neg hb) z
end L2

namespace L2
open PySem PySem.Spec PyProof.Rows

/-- the goal that k_head leaves (case hc), from the law's promise. F gives the function object fd (K's own) once, then the promise over every base -/
theorem walk_of {l : PySem.W.OpenLaw} {n k : Nat} {q : Program} {loose : List Str} {XP : (Str → Option Value) → Heap → Prop} {YP : World → Heap → Prop} {d : DefRec} {K : Params → PySem.W.Frag} {CX : World → CXT} {sp : World → Sp} {x : Str}
    (hn : l.most = some n) (hn2 : n ≤ sizeLine) (hdf : d.params.defaults = []) (hr : Room k callerA)
    (hY : ∀ (w : World) (h : Heap), YP w h → (K w.params).In h)
    (F : ∀ (w : World) (mg : Str → Option Value) (fa : Addr) (h : Heap), (K w.params).In h → h.Ns mainGlobals mg → mg d.name = some (.ref fa) →
      ∃ fd : FuncData, (∀ (s : Shared) (u : Value), BindsTo s fd ⟨[u], []⟩ [(x, u)]) ∧
        ∀ base : Heap, (K w.params).In base → base.Ns mainGlobals mg → FnOk l.prog w (K w.params) mg base (CX w) k fa fd [x] (sp w))
    (hsp : ∀ (w : World) (H : Hp) (a : Addr) (ns : List Int), ns.length ≤ n → Only H → SqL (K w.params) H a (ns.map V.int) → sp w [.ref a] H (fun v _ => v = .bl true) fun _ _ _ => False)
    (hCX : ∀ (w : World) (H : Hp) (s : Shared) (e : Value) (s' : Shared), CX w [] H s (fun _ _ _ => False) e s' → False) :
    PySem.W.WalkO q loose XP YP l.row.toRowW d [] (fun f vs => PySem.call f vs) := by
  refine Att.attach_call hn hdf fun w s₀ s₁ mg mb fa o pm cd doc a vs ns G Y ho hd hcd hmg hobj hints hlen hg => ?_
  have KX := hY w _ Y
  obtain ⟨fd, hb, hF⟩ := F w mg fa _ KX G.T.g hmg
  exact law_call KX G.T.g G.T.b G.T.builtins G.T.nolimit hg hobj hints (Nat.le_trans hlen hn2) hr hF hb (fun H hO hS => hsp w H a ns hlen hO hS) fun H e s' => hCX w H s₁ e s'
end L2


namespace L2
open PySem PySem.Spec PyProof.Rows

def defArgs (s : Stmt) : Arguments := match s with
  | .FunctionDef _ a _ _ _ _ _ _ _ _ => a
  | _ => { posonlyargs := [], args := [], vararg := none, kwonlyargs := [], kw_defaults := [], kwarg := none, defaults := [] }
def defBody (s : Stmt) : List Stmt := match s with
  | .FunctionDef _ _ b _ _ _ _ _ _ _ => b
  | _ => []
def defScope (s : Stmt) : Scope := match s with
  | .FunctionDef _ _ _ _ _ _ sc _ _ _ => sc
  | _ => { kind := .function, names := [], isGenerator := false, isCoroutine := false }

abbrev CX0 : CXT := fun _ _ _ _ _ _ => False
abbrev E0 : XK := fun _ _ _ => False
theorem pass0 {X : Cx} : Passes CX0 X E0 := fun _ _ _ _ _ _ _ h => h.elim

structure Fun (K : PySem.W.Frag) (x qual : Str) (st : Stmt) (f : Addr) (fd : FuncData) : Prop where
  ex : ∃ (oc : Value) (od : Option Addr) (kV doc pm : Value) (an : Option Addr) (cdv ct : Value) (osl : Array (Option Value)),
    fd = PySem.W.fnOf x qual (defArgs st) (defBody st) (defScope st) .none kV doc pm an cdv ct ∧ K.lookup f = some ⟨oc, od, .func fd, osl⟩ ∧ PySem.W.codeIn K cdv qual = true
  kp : PySem.W.keepIn K (.ref f) = true
section
variable {P : Program} {w : World} {K : PySem.W.Frag} {mg : Str → Option Value} {base : Heap}
/-- THE RULE for a def: its body as a term of rules, and the reading of that term -/
theorem Fun.ok {x qual : Str} {st : Stmt} {f : Addr} {fd : FuncData} {N ps : List Str} {k : Nat} {sp : Sp} (F : Fun K x qual st f fd) (S : FnScope N ps (defScope st)) (len : ∀ vs H Q E, sp vs H Q E → vs.length = ps.length)
    (hbody : ∀ (cdv : Value) (A : Around) (outer : List Env) (s : Shared) (H : Hp) (vs : List V) (Q : VK) (E : XK), Room k (A.deeper (envOfC qual (defScope st) s.heap.objs.size f cdv)) → sp vs H Q E →
      ∃ t, PSs (cxOf CX0 P w K mg base N qual (defScope st) f cdv A outer s H E).nox (defBody st) t ∧ t { nx := fun _ H' => Q .non H', rt := Q } (start N vs) H) : FnOk P w K mg base CX0 (k + 1) f fd ps sp := by
  obtain ⟨oc, od, kV, doc, pm, an, cdv, ct, osl, rfl, lk, hcd⟩ := F.ex
  refine fn_of lk hcd S len fun A outer s H vs Q E hr hsp => ?_
  obtain ⟨t, h, q⟩ := hbody cdv A outer s H vs Q E hr hsp
  exact ⟨t, h.nox, q⟩
/-- how its arguments bind (no defaults): h is «fun _ _ _ _ _ _ us hl => match us, hl with | [_, _], _ => rfl», one _ a parameter -/
theorem Fun.binds {x qual : Str} {st : Stmt} {f : Addr} {fd : FuncData} {ps : List Str} (F : Fun K x qual st f fd)
    (h : ∀ (kV doc pm : Value) (an : Option Addr) (cdv ct : Value) (us : List Value), us.length = ps.length → bindArgs (PySem.W.fnOf x qual (defArgs st) (defBody st) (defScope st) .none kV doc pm an cdv ct) ⟨us, []⟩ = pure (ps.zip us)) : Binds K fd ps [] := by
  obtain ⟨oc, od, kV, doc, pm, an, cdv, ct, osl, rfl, lk, hcd⟩ := F.ex
  exact .all (h kV doc pm an cdv ct)
theorem fun_mk {x qual : Str} {st : Stmt} {f : Addr} {oc : Value} {od an : Option Addr} {osl : Array (Option Value)} {kV doc pm cdv ct : Value} (l : K.lookup f = some ⟨oc, od, .func (PySem.W.fnOf x qual (defArgs st) (defBody st) (defScope st) .none kV doc pm an cdv ct), osl⟩)
    (c : PySem.W.codeIn K cdv qual = true) (k : PySem.W.keepIn K (.ref f) = true) : Fun K x qual st f (PySem.W.fnOf x qual (defArgs st) (defBody st) (defScope st) .none kV doc pm an cdv ct) := ⟨⟨oc, od, kV, doc, pm, an, cdv, ct, osl, rfl, l, c⟩, k⟩
end
section
variable {X : Cx}
theorem pv (i : Nat) {x : Str} {pos : Pos} (hN : X.N[i]? = some x := by rfl) (hv : Vis X.env.scope x := by first | exact Or.inl rfl | exact Or.inr (Or.inl rfl) | exact Or.inr (Or.inr rfl)) (hd : (x == ("__debug__" : Str)) = false := by decide)
    (hcd : (x == ("__classdict__" : Str)) = false := by decide) : PE X (.Name x pos) (tVar i) := pe_var hN hv hd hcd
end

theorem ite2 {c A B : Prop} [Decidable c] (h1 : c → A) (h2 : ¬ c → B) : if c then A else B := by
  by_cases h : c
  · rw [if_pos h]
    exact h1 h
  · rw [if_neg h]
    exact h2 h
/-- all that was tracked is as it was -/
def Same (H H' : Hp) : Prop := ∀ b o, H b = some o → H' b = some o
theorem Same.refl (H : Hp) : Same H H := fun _ _ h => h
theorem Same.trans {H H1 H2 : Hp} (a : Same H H1) (b : Same H1 H2) : Same H H2 := fun c o h => b c o (a c o h)
theorem Same.free {H H' : Hp} (e : Same H H') {l : Addr} (h : H' l = Option.none) : H l = Option.none := by
  cases q : H l with
  | none => rfl
  | some o =>
    rw [e l o q] at h
    cases h
theorem Same.seq {K : PySem.W.Frag} {H H' : Hp} {a : Addr} {xs : List V} (e : Same H H') (h : SqL K H a xs) : SqL K H' a xs := by
  rcases h with (h | ⟨o, h⟩) | h
  · exact .inl (.inl (e _ _ h))
  · exact .inl (.inr ⟨o, e _ _ h⟩)
  · exact .inr h

end L2
set_option Elab.async false
set_option linter.all false
set_option maxRecDepth 100000
set_option maxHeartbeats 4000000
namespace L2
open PySem PySem.Spec PyProof.Rows

def tYes : TT := fun _ H Q => Q true H
/-- the captured slots -/
def capSt (cap : List (Option Nat)) (σ : St) : St := cap.map fun o => o.bind fun j => (σ[j]?).join
def tComp (cap : List (Option Nat)) (wi : TI) (g : TG) (tc : TT) (te : TE) : TE := fun σ H Q => wi σ H fun J H1 => ∃ W : Nat → Nat → List V → Hp → Prop, (∃ m, W 0 m [] H1) ∧ ∀ i m ys H2, W i m ys H2 →
  (J.stop i H2 ∧ ys.length ≤ sizeLine ∧ ∀ p, H2 p = none → Q (.ref p) (upd H2 p (.lst ys))) ∨
  (J.go i H2 ∧ ∀ x H3, J.yld i H2 x H3 → g x (capSt cap σ) H3 fun σ2 H4 => tc σ2 H4 fun b H5 => if b = true then te σ2 H5 fun y H6 => ys.length < sizeLine ∧ ∃ m', m' < m ∧ W (i + 1) m' (ys ++ [y]) H6 else ∃ m', m' < m ∧ W (i + 1) m' ys H5)

theorem Un.cellK {fs ex : List Addr} {H H' : Hp} {h h' : Heap} (u : Un fs ex H H' h h') {c : Addr} {v : Option Value} (x : h.IsCell c v) (n : H c = none) (he : c ∉ ex) : h'.IsCell c v := by
  obtain ⟨o, ho, hd⟩ := x
  obtain ⟨sl, q⟩ := u.any ho n he
  exact ⟨_, q, hd⟩

section
variable {X : Cx} {elt tg iter : Expr} {ifs : List Expr} {scope : Scope} {pos : Pos} {nm : List Str} {cl : List (Str × Addr)} {cap : List (Option Nat)} {wi : TI} {g : TG} {tc : TT} {te : TE}

end
end L2
set_option Elab.async false
set_option linter.all false
set_option maxRecDepth 100000
set_option maxHeartbeats 4000000
namespace L2
open PySem PySem.Spec PyProof.Rows

def tx (l : List Nat) : Str := ⟨l.toArray⟩
theorem tx_cps (l : List Nat) : (tx l).cps.toList = l := rfl
theorem tx_len (l : List Nat) : (tx l).length = l.length := by show l.toArray.size = _; simp
theorem tx_app (a b : List Nat) : tx a ++ tx b = tx (a ++ b) := by
  show (⟨a.toArray ++ b.toArray⟩ : Str) = ⟨(a ++ b).toArray⟩
  simp
theorem tx_inj {a b : List Nat} : tx a = tx b ↔ a = b := ⟨fun h => by have := congrArg (fun z : Str => z.cps.toList) h; exact this, fun h => by rw [h]⟩
theorem tx_one (c : Nat) : (⟨#[c]⟩ : Str) = tx [c] := rfl
theorem V_str_eq (a b : List Nat) : (decide (V.str (tx a) = V.str (tx b))) = decide (a = b) := by
  by_cases h : a = b
  · subst h; simp
  · rw [decide_eq_false h, decide_eq_false]
    intro e
    injection e with e
    exact h (tx_inj.mp e)
section
variable {X : Cx} {tg : Expr}
def cutN (l : List Nat) (lo hi : Option Int) : List Nat := (l.drop (HT.sIx l.length 0 lo)).take (HT.sIx l.length l.length hi - HT.sIx l.length 0 lo)
theorem cutN_length (l : List Nat) (lo hi : Option Int) : (cutN l lo hi).length ≤ l.length := by unfold cutN; rw [List.length_take, List.length_drop]; omega
theorem pick_range (l : List Nat) (i k : Nat) : ((List.range k).map fun (m : Nat) => i + m).filterMap (fun j => l[j]?) = (l.drop i).take k := by
  induction k generalizing i with
  | zero => simp
  | succ k ih =>
    rw [List.range_succ_eq_map, List.map_cons, List.map_map]
    have e : ((fun m => i + m) ∘ Nat.succ) = fun m => (i + 1) + m := by funext m; simp [Function.comp]; omega
    rw [e]
    by_cases h : i < l.length
    · rw [List.filterMap_cons]
      simp only [Nat.add_zero, List.getElem?_eq_getElem h]
      rw [ih (i + 1), List.drop_eq_getElem_cons h, List.take_succ_cons]
    · rw [List.filterMap_cons]
      have h' : l.length ≤ i := by omega
      simp only [Nat.add_zero, List.getElem?_eq_none h']
      rw [ih (i + 1), List.drop_eq_nil_of_le h', List.drop_eq_nil_of_le (by omega)]
      simp
theorem clipS (v : Int) (n d : Nat) : (if (1 : Int) > 0 then max 0 (min (if v < 0 then v + (n : Int) else v) (n : Int)) else max (-1) (min (if v < 0 then v + (n : Int) else v) ((n : Int) - 1))) = ((HT.sIx n d (some v) : Nat) : Int) := by
  rw [if_pos (by omega)]
  show _ = (((if v < 0 then (v + (n : Int)).toNat else min v.toNat n) : Nat) : Int)
  by_cases hv : v < 0
  · simp only [if_pos hv]; omega
  · simp only [if_neg hv]; omega
theorem strIdx (lo hi : Option Int) (n : Nat) : Builtin.Str.strSliceIndices lo hi 1 n = (List.range (HT.sIx n n hi - HT.sIx n 0 lo)).map fun (m : Nat) => HT.sIx n 0 lo + m := by
  have key : ∀ a b : Nat, sliceRange (a : Int) (b : Int) 1 = (List.range (b - a)).map fun (m : Nat) => a + m := fun a b => by
    unfold sliceRange
    have e : (if (1 : Int) > 0 then (if (a : Int) < (b : Int) then ((b : Int) - a + 1 - 1) / 1 else 0) else (if (a : Int) > b then ((a : Int) - b - 1 - 1) / (-1) else 0)).toNat = b - a := by
      rw [if_pos (by omega)]
      by_cases h : (a : Int) < b
      · rw [if_pos h]; omega
      · rw [if_neg h]; omega
    dsimp only
    rw [e]
    refine List.map_congr_left fun k _ => ?_
    omega
  unfold Builtin.Str.strSliceIndices
  rw [← key]
  dsimp only
  congr 1
  · cases lo with
    | none => rfl
    | some v => exact clipS v n 0
  · cases hi with
    | none => rfl
    | some v => exact clipS v n n
theorem slice_tx (l : List Nat) (lo hi : Option Int) : Txt.slice (tx l) lo hi = tx (cutN l lo hi) := by
  unfold Txt.slice
  rw [strIdx, tx_len]
  split
  · rename_i h
    simp only [beq_self_eq_true, Bool.true_and, beq_iff_eq, List.length_map, List.length_range] at h
    unfold cutN
    have h1 := HT.sIx_le l.length l.length (Nat.le_refl _) hi
    have h2 := HT.sIx_le l.length 0 (Nat.zero_le _) lo
    by_cases hz : l.length = 0
    · have : l = [] := List.eq_nil_of_length_eq_zero hz
      subst this; simp
    · have e0 : HT.sIx l.length 0 lo = 0 := by omega
      rw [e0, List.drop_zero, List.take_of_length_le (by omega)]
  · unfold cutN tx
    have : ∀ j : Nat, (l.toArray)[j]? = l[j]? := fun j => by simp
    simp only [this]
    rw [pick_range]

def rSlS : V → Option Int → Option Int → Hp → VK → Prop := fun x lo hi H Q => ∃ l, x = .str (tx l) ∧ l.length ≤ sizeLine ∧ Q (.str (tx (cutN l lo hi))) H
theorem part_of {v : Value} {o : Option Int} (p : IsPart v o) : ∃ q : Option (Int × Tok), v = partValue q ∧ q.map (·.1) = o := by
  cases p with
  | none => exact ⟨none, rfl, rfl⟩
  | int i t => exact ⟨some (i, t), rfl, rfl⟩
theorem sl_str : SlR X rSlS := by
  intro pins s σ H x v vl vu lo hi sl Q I rx hs pl pu h
  obtain ⟨l, e, hz, q⟩ := h
  subst e
  obtain ⟨t, rfl⟩ := rx
  obtain ⟨pl', rfl, rfl⟩ := part_of pl
  obtain ⟨pu', rfl, rfl⟩ := part_of pu
  refine ⟨"str", _, F.slot_str_getitem.lookup, typeIs_str _ _ _, ?_⟩
  refine wpAny_getItem_str_slice (l := pl') (u := pu') (st := none) hs rfl (post_val_or_str ?_)
  have e := slice_tx l (pl'.map (·.1)) (pu'.map (·.1))
  unfold Txt.slice at e
  show (if ((1 : Int) == 1 && (Builtin.Str.strSliceIndices (pl'.map (·.1)) (pu'.map (·.1)) 1 (tx l).length).length == (tx l).length) = true then tx l else ⟨((Builtin.Str.strSliceIndices (pl'.map (·.1)) (pu'.map (·.1)) 1 (tx l).length).filterMap ((tx l).cps[·]?)).toArray⟩ : Str).length ≤ sizeLine ∧
    ∀ t' k, EP X pins σ Q (.str (if ((1 : Int) == 1 && (Builtin.Str.strSliceIndices (pl'.map (·.1)) (pu'.map (·.1)) 1 (tx l).length).length == (tx l).length) = true then tx l else ⟨((Builtin.Str.strSliceIndices (pl'.map (·.1)) (pu'.map (·.1)) 1 (tx l).length).filterMap ((tx l).cps[·]?)).toArray⟩ : Str) t') { s with toks := k }
  rw [e, tx_len]
  exact ⟨Nat.le_trans (cutN_length l _ _) hz, fun t' k => ⟨.str _, H, I.tok k, ⟨t', rfl⟩, q⟩⟩

/-- x[::-1] of a text -/
def tRevS (te : TE) : TE := fun σ H Q => te σ H fun x H1 => ∃ l, x = .str (tx l) ∧ l.length ≤ sizeLine ∧ Q (.str (tx l.reverse)) H1
theorem in_one (c : Nat) (l : List Nat) : (!(Builtin.Str.occurrences (tx l) (tx [c]) 0 (tx l).length 1).isEmpty) = decide (c ∈ l) := StrLaws.found_one (tx l) c
def rInS (neg : Bool) : R2 := fun x y H Q => ∃ c l, x = .str (tx [c]) ∧ y = .str (tx l) ∧ Q (.bl (if neg then !decide (c ∈ l) else decide (c ∈ l))) H
theorem op_in_one : OpR X (compareOp .In) (rInS false) := by
  intro pins s σ H x y v u Q I rx ry h
  obtain ⟨c, l, rfl, rfl, q⟩ := h
  exact op_in_str pins s σ H _ _ v u Q I rx ry ⟨_, _, rfl, rfl, by rw [in_one]; exact q⟩
theorem op_le_one : OpR X (compareOp .LtE) (fun x y H Q => ∃ c d, x = .str (tx [c]) ∧ y = .str (tx [d]) ∧ Q (.bl (decide (c ≤ d))) H) := by
  intro pins s σ H x y v u Q I rx ry h
  obtain ⟨c, d, rfl, rfl, q⟩ := h
  obtain ⟨t, rfl⟩ := rx
  obtain ⟨t', rfl⟩ := ry
  refine PySem.P.le_str ⟨.bl _, H, I, ?_, q⟩
  show Value.bool _ = Value.bool _
  congr 1
  show (!decide ([d] < [c])) = decide (c ≤ d)
  by_cases hcd : c ≤ d
  · rw [decide_eq_true hcd, decide_eq_false]; rfl
    intro z
    cases z with
    | rel z => omega
    | cons z => cases z
  · rw [decide_eq_false hcd, decide_eq_true]; rfl
    exact .rel (by omega)
/-- parts with a text between -/
def joinN (sep : List Nat) : List (List Nat) → List Nat
  | [] => []
  | [x] => x
  | x :: y :: r => x ++ sep ++ joinN sep (y :: r)
def rJoin (K : PySem.W.Frag) : V → List V → Hp → VK → Prop := fun x vs H Q => ∃ (sep : List Nat) (a : Addr) (ys : List (List Nat)), x = .str (tx sep) ∧ vs = [.ref a] ∧ SqL K H a (ys.map fun l => V.str (tx l)) ∧ (ys.map List.length).sum + ys.length * sep.length ≤ 16777216 ∧ Q (.str (tx (joinN sep ys))) H
end

end L2
set_option Elab.async false
set_option linter.all false
set_option maxRecDepth 100000
set_option maxHeartbeats 4000000
namespace L2
open PySem PySem.Spec PyProof.Rows

inductive D where
  | non | bl (b : Bool) | int (i : Int) | str (l : List Nat) | tnil | tcons (d r : D)
  deriving DecidableEq
def D.tup : List D → D
  | [] => .tnil
  | d :: r => .tcons d (D.tup r)
mutual
def Dp (K : PySem.W.Frag) (H : Hp) : D → V → Prop
  | .non, v => v = .non
  | .bl b, v => v = .bl b
  | .int i, v => v = .int i
  | .str l, v => v = .str (tx l)
  | .tnil, v => ∃ p, v = .ref p ∧ SqT K H p []
  | .tcons d r, v => ∃ p x xs, v = .ref p ∧ SqT K H p (x :: xs) ∧ Dp K H d x ∧ DpL K H r xs
def DpL (K : PySem.W.Frag) (H : Hp) : D → List V → Prop
  | .tnil, xs => xs = []
  | .tcons d r, xs => ∃ x ys, xs = x :: ys ∧ Dp K H d x ∧ DpL K H r ys
  | .non, _ => False
  | .bl _, _ => False
  | .int _, _ => False
  | .str _, _ => False
end
/-- tuples stay -/
def Ext (K : PySem.W.Frag) (H H' : Hp) : Prop := ∀ p xs, SqT K H p xs → SqT K H' p xs
mutual
theorem Dp.mono {K : PySem.W.Frag} {H H' : Hp} (e : Ext K H H') : ∀ {d : D} {v : V}, Dp K H d v → Dp K H' d v
  | .non, _, h => by unfold Dp at h ⊢; exact h
  | .bl _, _, h => by unfold Dp at h ⊢; exact h
  | .int _, _, h => by unfold Dp at h ⊢; exact h
  | .str _, _, h => by unfold Dp at h ⊢; exact h
  | .tnil, _, h => by unfold Dp at h ⊢; obtain ⟨p, e1, e2⟩ := h; exact ⟨p, e1, e _ _ e2⟩
  | .tcons d r, _, h => by unfold Dp at h ⊢; obtain ⟨p, x, xs, e1, e2, h1, h2⟩ := h; exact ⟨p, x, xs, e1, e _ _ e2, Dp.mono e h1, DpL.mono e h2⟩
theorem DpL.mono {K : PySem.W.Frag} {H H' : Hp} (e : Ext K H H') : ∀ {d : D} {v : List V}, DpL K H d v → DpL K H' d v
  | .non, _, h => by unfold DpL at h; exact h.elim
  | .bl _, _, h => by unfold DpL at h; exact h.elim
  | .int _, _, h => by unfold DpL at h; exact h.elim
  | .str _, _, h => by unfold DpL at h; exact h.elim
  | .tnil, _, h => by unfold DpL at h ⊢; exact h
  | .tcons d r, _, h => by unfold DpL at h ⊢; obtain ⟨x, xs, e1, h1, h2⟩ := h; exact ⟨x, xs, e1, Dp.mono e h1, DpL.mono e h2⟩
end
/-- a row of values -/
abbrev Dps (K : PySem.W.Frag) (H : Hp) : List D → List V → Prop := Paired fun d v => Dp K H d v
theorem Dps.mono {K : PySem.W.Frag} {H H' : Hp} (e : Ext K H H') : ∀ {ds : List D} {vs : List V}, Dps K H ds vs → Dps K H' ds vs
  | _, _, .nil => .nil
  | _, _, .cons h t => .cons (h.mono e) (Dps.mono e t)
theorem DpL.of {K : PySem.W.Frag} {H : Hp} : ∀ {ds : List D} {vs : List V}, Dps K H ds vs → DpL K H (D.tup ds) vs
  | _, _, .nil => by unfold D.tup DpL; rfl
  | _, _, .cons h t => by unfold D.tup DpL; exact ⟨_, _, rfl, h, DpL.of t⟩
theorem DpL.to {K : PySem.W.Frag} {H : Hp} : ∀ {ds : List D} {vs : List V}, DpL K H (D.tup ds) vs → Dps K H ds vs
  | [], _, h => by unfold D.tup DpL at h; subst h; exact .nil
  | d :: ds, _, h => by unfold D.tup DpL at h; obtain ⟨x, xs, rfl, h1, h2⟩ := h; exact .cons h1 (DpL.to h2)
/-- a tuple's value -/
theorem Dp.tupI {K : PySem.W.Frag} {H : Hp} {p : Addr} {vs : List V} {ds : List D} (h : SqT K H p vs) (hd : Dps K H ds vs) : Dp K H (D.tup ds) (.ref p) := by
  cases hd with
  | nil => unfold D.tup Dp; exact ⟨p, rfl, h⟩
  | cons a t => unfold D.tup Dp; exact ⟨p, _, _, rfl, h, a, DpL.of t⟩
theorem Dp.tupE {K : PySem.W.Frag} {H : Hp} {v : V} {ds : List D} (h : Dp K H (D.tup ds) v) : ∃ p vs, v = .ref p ∧ SqT K H p vs ∧ Dps K H ds vs := by
  cases ds with
  | nil => unfold D.tup Dp at h; obtain ⟨p, e, q⟩ := h; exact ⟨p, [], e, q, .nil⟩
  | cons d r => unfold D.tup Dp at h; obtain ⟨p, x, xs, e, q, h1, h2⟩ := h; exact ⟨p, _, e, q, .cons h1 (DpL.to h2)⟩

theorem SqT.same {K : PySem.W.Frag} {H H' : Hp} (e : Same H H') : Ext K H H' := fun p xs h => by
  rcases h with (h | ⟨o, h⟩) | h
  · exact .inl (.inl (e _ _ h))
  · exact .inl (.inr ⟨o, e _ _ h⟩)
  · exact .inr h
theorem same_new {H : Hp} {p : Addr} (h : H p = none) (o : HO) : Same H (upd H p o) := fun b u q => by rw [upd_ne (ne_of_none q h)]; exact q
/-- all but l is as it was -/
def But (l : Addr) (H H' : Hp) : Prop := ∀ b o, b ≠ l → H b = some o → H' b = some o
theorem But.refl {l : Addr} (H : Hp) : But l H H := fun _ _ _ h => h
theorem But.trans {l : Addr} {H H1 H2 : Hp} (a : But l H H1) (b : But l H1 H2) : But l H H2 := fun c o h q => b c o h (a c o h q)
theorem Same.but {l : Addr} {H H' : Hp} (a : Same H H') : But l H H' := fun b o _ q => a b o q
theorem but_upd {l : Addr} {H : Hp} {o : HO} : But l H (upd H l o) := fun b u h q => by rw [upd_ne h]; exact q
theorem SqT.but {K : PySem.W.Frag} {l : Addr} {xs : List V} {H H' : Hp} (e : But l H H') (hl : H l = some (.lst xs)) : Ext K H H' := fun p ys h => by
  have hne : ∀ {o : HO}, H p = some o → (∀ zs, o ≠ .lst zs) → p ≠ l := fun {o} q hn z => by subst z; rw [hl] at q; cases q; exact hn _ rfl
  rcases h with (h | ⟨o, h⟩) | h
  · exact .inl (.inl (e _ _ (hne h (fun _ z => by cases z)) h))
  · exact .inl (.inr ⟨o, e _ _ (hne h (fun _ z => by cases z)) h⟩)
  · exact .inr h
theorem Ext.refl {K : PySem.W.Frag} {H : Hp} : Ext K H H := fun _ _ h => h
theorem Ext.trans {K : PySem.W.Frag} {H H1 H2 : Hp} (a : Ext K H H1) (b : Ext K H1 H2) : Ext K H H2 := fun p xs h => b p xs (a p xs h)
theorem SqT.new {K : PySem.W.Frag} {H : Hp} {p : Addr} {xs : List V} : SqT K (upd H p (.tup xs)) p xs := SqT.of upd_same
/-- a list that is read stays, where it is not the one that changes -/
theorem SqL.but {K : PySem.W.Frag} {l a : Addr} {xs : List V} {H H' : Hp} (e : But l H H') (hne : a ≠ l) (h : SqL K H a xs) : SqL K H' a xs := by
  rcases h with (h | ⟨o, h⟩) | h
  · exact .inl (.inl (e _ _ hne h))
  · exact .inl (.inr ⟨o, e _ _ hne h⟩)
  · exact .inr h

structure Has (P : Program) (w : World) (K : PySem.W.Frag) (mg : Str → Option Value) (base : Heap) (k : Nat) (x : Str) (ps : List Str) (sp : Sp) : Prop where
  ex : ∃ (f : Addr) (fd : FuncData), mg x = some (.ref f) ∧ PySem.W.keepIn K (.ref f) = true ∧ Binds K fd ps [] ∧ FnOk P w K mg base CX0 k f fd ps sp
theorem Has.mono {P : Program} {w : World} {K : PySem.W.Frag} {mg : Str → Option Value} {base : Heap} {j k : Nat} {x : Str} {ps : List Str} {sp : Sp} (h : Has P w K mg base j x ps sp) (hj : j ≤ k) : Has P w K mg base k x ps sp := by
  obtain ⟨f, fd, a, b, c, d⟩ := h.ex
  exact ⟨f, fd, a, b, c, d.mono hj⟩
theorem pe_has {X : Cx} {k : Nat} {x : Str} {ps : List Str} {sp : Sp} {p pos : Pos} {e : Expr} {es : List Expr} {t : TA} (F : Has X.prog X.w X.K X.mg X.base k x ps sp) (hr : Room k X.A) (ha : PA X (e :: es) t) (hg : Gl X x := by rfl) (hdb : (x == ("__debug__" : Str)) = false := by decide)
    (he : starEach (e :: es) X.env = (false, eval e X.env) :: starEach es X.env := by rfl) (hpl : (backTo pos (starEach es X.env)).any (·.1) = false := by rfl) :
    PE X (.Call (.Name x p) (e :: es) [] pos) (tCall sp [] E0 t) := by
  obtain ⟨f, fd, a, b, c, d⟩ := F.ex
  exact pe_call d hr hg a b c .nil pass0 ha hdb he hpl
/-- from the def's body to what is known of it -/
theorem has_mk {P : Program} {w : World} {K : PySem.W.Frag} {mg : Str → Option Value} {base : Heap} {k : Nat} {x : Str} {st : Stmt} {f : Addr} {fd : FuncData} {ps : List Str} {sp : Sp}
    (F : Fun K x x st f fd) (hm : mg x = some (.ref f))
    (hb : ∀ (kV doc pm : Value) (an : Option Addr) (cdv ct : Value) (us : List Value), us.length = ps.length → bindArgs (PySem.W.fnOf x x (defArgs st) (defBody st) (defScope st) .none kV doc pm an cdv ct) ⟨us, []⟩ = pure (ps.zip us))
    (ok : FnOk P w K mg base CX0 k f fd ps sp) : Has P w K mg base k x ps sp := ⟨f, fd, hm, F.kp, F.binds hb, ok⟩

end L2

namespace L2
open PySem PySem.Spec PyProof.Rows
/-- a constant of the module -/
theorem pe_gc {X : Cx} {x : Str} {v : V} {pos : Pos} (h : ∃ u, X.mg x = some u ∧ RelV v u) (hg : Gl X x := by rfl) (hd : (x == ("__debug__" : Str)) = false := by decide) : PE X (.Name x pos) (tC v) := by
  obtain ⟨u, a, b⟩ := h
  exact pe_glob hg a b hd
end L2

namespace L2
open PySem PySem.Spec PyProof.Rows
section
variable {X : Cx} {o e : Expr} {es : List Expr} {to : TE} {t : TA} {name : Str} {apos cpos : Pos} {id : String} {r : V → List V → Hp → VK → Prop}
def tML (r : V → List V → Hp → VK → Prop) (to : TE) (t : TA) : TE := fun σ H Q => to σ H fun x H1 => (∃ l ys, x = .ref l ∧ H1 l = some (.lst ys)) ∧ t σ H1 fun xs H2 => r x xs H2 Q
def tMS (r : V → List V → Hp → VK → Prop) (to : TE) (t : TA) : TE := fun σ H Q => to σ H fun x H1 => (∃ l, x = .str (tx l)) ∧ t σ H1 fun xs H2 => r x xs H2 Q
def tML0 (r : V → List V → Hp → VK → Prop) (to : TE) : TE := fun σ H Q => to σ H fun x H1 => (∃ l ys, x = .ref l ∧ H1 l = some (.lst ys)) ∧ r x [] H1 Q
theorem tyV_list {K : PySem.W.Frag} {x : V} {H : Hp} (h : ∃ l ys, x = .ref l ∧ H l = some (.lst ys)) : tyV K "list" x H := by
  obtain ⟨l, ys, rfl, h⟩ := h
  exact .inl ⟨rfl, _, .of h⟩
theorem pe_bmX {T : String} {ty : V → Hp → Prop} (hty' : ∀ x H, ty x H → tyV X.K T x H) (pa : PlainAttrs T) (slot : Slot T name id) (hty : typeOf (.builtin id) = pure (.type "method_descriptor")) (hm : MtR X id r) (ho : PE X o to) (ha : PA X (e :: es) t)
    (hbase : attributeBase o name X.env (eval o X.env) = eval o X.env)
    (hfew : ((backTo cpos (starEach (e :: es) X.env)).all (fun x => !x.1) && (backToKw cpos (keywordEach [] X.env)).all (fun x => x.1.isSome)
      && decide ((e :: es).length + ([] : List Keyword).length + (if ([] : List Keyword).isEmpty then 0 else 1) < 30)) = true)
    (hline : (apos.endLine == cpos.line) = true) (hs : starEach (e :: es) X.env = (false, eval e X.env) :: starEach es X.env) (hplain : (backTo cpos (starEach es X.env)).any (·.1) = false) :
    PE X (.Call (.Attribute o name apos) (e :: es) [] cpos) (fun σ H Q => to σ H fun x H1 => ty x H1 ∧ t σ H1 fun xs H2 => r x xs H2 Q) := by
  intro pins s σ H Q I h
  refine wpAny_Call_method_late hbase hfew hline rfl (thn (ho pins s σ H _ I h) fun v s1 ⟨x, H1, I1, r1, ty, q1⟩ => ?_)
  obtain ⟨h1, h2⟩ := tyV_is I1 r1 (hty' _ _ ty)
  refine ⟨T, id, pa, slot, hty, h1, h2, ?_⟩
  have hA := ha cpos pins s1 σ H1 _ I1 q1
  rw [hs] at hA ⊢
  refine Calls.callWith_builtin (by show (false || (backTo cpos (starEach es X.env)).any (·.1)) = false; rw [hplain] <;> rfl) (Calls.evalArgs_plain ?_)
  exact thn hA fun us s2 ⟨vs, H2, I2, r2, q2⟩ => hm pins s2 σ H2 x vs v us Q I2 r1 r2 q2
theorem pe_ml (slot : Slot "list" name id) (hty : typeOf (.builtin id) = pure (.type "method_descriptor")) (hm : MtR X id r) (ho : PE X o to) (ha : PA X (e :: es) t)
    (hbase : attributeBase o name X.env (eval o X.env) = eval o X.env := by rfl)
    (hfew : ((backTo cpos (starEach (e :: es) X.env)).all (fun x => !x.1) && (backToKw cpos (keywordEach [] X.env)).all (fun x => x.1.isSome)
      && decide ((e :: es).length + ([] : List Keyword).length + (if ([] : List Keyword).isEmpty then 0 else 1) < 30)) = true := by rfl)
    (hline : (apos.endLine == cpos.line) = true := by rfl) (hs : starEach (e :: es) X.env = (false, eval e X.env) :: starEach es X.env := by rfl) (hplain : (backTo cpos (starEach es X.env)).any (·.1) = false := by rfl) :
    PE X (.Call (.Attribute o name apos) (e :: es) [] cpos) (tML r to t) := pe_bmX (ty := fun x H1 => ∃ l ys, x = .ref l ∧ H1 l = some (.lst ys)) (fun _ _ h => tyV_list h) F.plainAttrs_list slot hty hm ho ha hbase hfew hline hs hplain
theorem pe_ml0 (slot : Slot "list" name id) (hty : typeOf (.builtin id) = pure (.type "method_descriptor")) (hm : MtR X id r) (ho : PE X o to)
    (hbase : attributeBase o name X.env (eval o X.env) = eval o X.env := by rfl) (hline : (apos.endLine == cpos.line) = true := by rfl) : PE X (.Call (.Attribute o name apos) [] [] cpos) (tML0 r to) := by
  intro pins s σ H Q I h
  refine wpAny_Call_method0_late hbase hline (thn (ho pins s σ H _ I h) fun v s1 ⟨x, H1, I1, r1, ty, q1⟩ => ?_)
  obtain ⟨h1, h2⟩ := tyV_is I1 r1 (tyV_list ty)
  exact ⟨"list", id, F.plainAttrs_list, slot, hty, h1, h2, Calls.callWith_builtin rfl (PySem.evalArgs_none (hm pins s1 σ H1 x [] v [] Q I1 r1 .nil q1))⟩
end
end L2

namespace L2
open PySem PySem.Spec PyProof.Rows
theorem cutN_upto {l : List Nat} {k : Int} (h0 : 0 ≤ k) : cutN l none (some k) = l.take k.toNat := by
  unfold cutN HT.sIx
  simp only [List.drop_zero, Nat.sub_zero]
  rw [if_neg (by omega)]
  by_cases h : k.toNat ≤ l.length
  · rw [Nat.min_eq_left h]
  · rw [Nat.min_eq_right (by omega), List.take_of_length_le (Nat.le_refl _), List.take_of_length_le (by omega)]
theorem cutN_from {l : List Nat} {k : Int} (h0 : 0 ≤ k) : cutN l (some k) none = l.drop k.toNat := by
  unfold cutN HT.sIx
  simp only
  rw [if_neg (by omega), List.take_of_length_le (by simp)]
  by_cases h : k.toNat ≤ l.length
  · rw [Nat.min_eq_left h]
  · rw [Nat.min_eq_right (by omega), List.drop_of_length_le (Nat.le_refl _), List.drop_of_length_le (by omega)]
end L2

namespace L2
open PySem PySem.Spec PyProof.Rows
section
variable {X : Cx} {e : Expr} {es : List Expr} {te : TE} {t : TA} {pos : Pos}
def tTupF (t : TA) : TE := fun σ H Q => t σ H fun xs H1 => xs.length ≤ sizeLine ∧ ∀ p H2, H1 p = none → H2 = upd H1 p (.tup xs) → Q (.ref p) H2
def tLstF (t : TA) : TE := fun σ H Q => t σ H fun xs H1 => xs.length ≤ sizeLine ∧ ∀ p H2, H1 p = none → H2 = upd H1 p (.lst xs) → Q (.ref p) H2
theorem pe_tupF {x1} (h : PA X es t) : PE X (.Tuple es x1 pos) (tTupF t) := by
  intro pins s σ H Q I hq
  refine wpAny_Tuple_spliced (thn (h pos pins s σ H _ I hq) fun us s1 ⟨xs, H1, I1, r, z, q⟩ => ⟨by rw [← r.length]; exact z, ?_⟩)
  have hf : H1 s1.heap.objs.size = none := I1.hok.fresh (Nat.le_refl _)
  refine ⟨.ref s1.heap.objs.size, upd H1 s1.heap.objs.size (.tup xs), I1.laid (t' := s1.toks) (fun b u e => Heap.get?_push_of_some _ e) (Nat.le_refl _) ?_, rfl, q _ _ hf rfl⟩
  exact ⟨z, us, r, ⟨_, Heap.get?_push_size _ rfl, rfl, _, rfl⟩⟩
theorem pe_lstF (h : PA X es t) : PE X (.List es pos) (tLstF t) := by
  intro pins s σ H Q I hq
  refine wpAny_List_spliced (thn (h pos pins s σ H _ I hq) fun us s1 ⟨xs, H1, I1, r, z, q⟩ => ⟨by rw [← r.length]; exact z, ?_⟩)
  have hf : H1 s1.heap.objs.size = none := I1.hok.fresh (Nat.le_refl _)
  refine ⟨.ref s1.heap.objs.size, upd H1 s1.heap.objs.size (.lst xs), I1.laid (t' := s1.toks) (fun b u e => Heap.get?_push_of_some _ e) (Nat.le_refl _) ?_, rfl, q _ _ hf rfl⟩
  exact ⟨z, us, 0, r, Heap.get?_push_size _ rfl⟩
theorem MtR.imp {id : String} {r r' : V → List V → Hp → VK → Prop} (h : MtR X id r) (i : ∀ x xs H Q, r' x xs H Q → r x xs H Q) : MtR X id r' := fun pins s σ H x xs v us Q I rx rv q => h pins s σ H x xs v us Q I rx rv (i _ _ _ _ q)
theorem CallR.imp {f : Value} {r r' : List V → Hp → VK → Prop} (h : CallR X f r) (i : ∀ xs H Q, r' xs H Q → r xs H Q) : CallR X f r' := fun pins s σ H xs us Q I rv q => h pins s σ H xs us Q I rv (i _ _ _ q)
theorem OpR.imp {f : Value → Value → Sem Value} {r r' : R2} (h : OpR X f r) (i : ∀ x y H Q, r' x y H Q → r x y H Q) : OpR X f r' := fun pins s σ H x y v u Q I rx ry q => h pins s σ H x y v u Q I rx ry (i _ _ _ _ q)
theorem SlR.imp {r r' : V → Option Int → Option Int → Hp → VK → Prop} (h : SlR X r) (i : ∀ x lo hi H Q, r' x lo hi H Q → r x lo hi H Q) : SlR X r' := fun pins s σ H x v vl vu lo hi sl Q I rx hs pl pu q => h pins s σ H x v vl vu lo hi sl Q I rx hs pl pu (i _ _ _ _ _ q)
def rAppendF : V → List V → Hp → VK → Prop := fun x vs H Q => ∃ l xs y, x = .ref l ∧ vs = [y] ∧ H l = some (.lst xs) ∧ xs.length < sizeLine ∧ ∀ H2, H2 = upd H l (.lst (xs ++ [y])) → Q .non H2
theorem mt_appendF : MtR X "list.append" rAppendF := MtR.imp (r := rAppend) mt_append fun _ _ _ _ ⟨l, xs, y, a, b, c, d, q⟩ => ⟨l, xs, y, a, b, c, d, q _ rfl⟩
def rPopF : V → List V → Hp → VK → Prop := fun x vs H Q => ∃ l xs y, x = .ref l ∧ vs = [] ∧ H l = some (.lst (xs ++ [y])) ∧ ∀ H2, H2 = upd H l (.lst xs) → Q y H2
theorem mt_popF : MtR X "list.pop" rPopF := MtR.imp (r := rPop) mt_pop fun _ _ _ _ ⟨l, xs, y, a, b, c, q⟩ => ⟨l, xs ++ [y], y, a, b, c, by simp, by rw [List.dropLast_concat]; exact q _ rfl⟩
def rSetLF : V → V → V → Hp → (Hp → Prop) → Prop := fun o i v H Q => ∃ p xs k j, o = .ref p ∧ i = .int k ∧ H p = some (.lst xs) ∧ ixN xs.length k = some j ∧ ∀ H2, H2 = upd H p (.lst (xs.set j v)) → Q H2
theorem set_listF : PSet X rSetLF := fun pins s σ H o i v ov iv u Q I r1 r2 r3 q => by
  obtain ⟨p, xs, k, j, a, b, c, d, q⟩ := q
  exact set_list pins s σ H o i v ov iv u Q I r1 r2 r3 ⟨p, xs, k, j, a, b, c, d, q _ rfl⟩
def rTupleOf (K : PySem.W.Frag) : List V → Hp → VK → Prop := fun xs H Q => ∃ p ys, xs = [.ref p] ∧ SqL K H p ys ∧ ∀ l H2, H l = none → H2 = upd H l (.tup ys) → Q (.ref l) H2
def rListOf (K : PySem.W.Frag) : List V → Hp → VK → Prop := fun xs H Q => ∃ p ys, xs = [.ref p] ∧ (SqL K H p ys ∨ SqT K H p ys) ∧ ∀ l H2, H l = none → H2 = upd H l (.lst ys) → Q (.ref l) H2
def rCatF : R2 := fun x y H Q => ∃ l b xs zs, x = .ref l ∧ y = .ref b ∧ H l = some (.lst xs) ∧ H b = some (.lst zs) ∧ xs.length + zs.length ≤ sizeLine ∧ ∀ p H2, H p = none → H2 = upd H p (.lst (xs ++ zs)) → Q (.ref p) H2
theorem op_catF : OpR X (binaryOp .Add) rCatF := OpR.imp op_cat fun _ _ _ _ ⟨l, b, xs, zs, h1, h2, h3, h4, h5, q⟩ => ⟨l, b, xs, zs, h1, h2, h3, h4, h5, fun p hp => q p _ hp rfl⟩
end
end L2

namespace L2
open PySem PySem.Spec PyProof.Rows
theorem scal_ss (a b : Str) : scal (.str a) (.str b) = true := rfl
theorem scal_ii (a b : Int) : scal (.int a) (.int b) = true := rfl
theorem scal_bb (a b : Bool) : scal (.bl a) (.bl b) = true := rfl
theorem V_int_eq (a b : Int) : (decide (V.int a = V.int b)) = decide (a = b) := by
  by_cases h : a = b
  · subst h; simp
  · rw [decide_eq_false h, decide_eq_false]
    intro e; injection e with e; exact h e
theorem V_bl_eq (a b : Bool) : (decide (V.bl a = V.bl b)) = decide (a = b) := by cases a <;> cases b <;> rfl
theorem if_tt {c : Bool} {A B : Prop} (h : c = true) (a : A) : if c = true then A else B := by rw [if_pos h]; exact a
theorem if_ff {c : Bool} {A B : Prop} (h : c = false) (b : B) : if c = true then A else B := by rw [if_neg (by rw [h]; exact Bool.false_ne_true)]; exact b
end L2

namespace L2
open PySem PySem.Spec PyProof.Rows
def tyName : D → String
  | .non => "NoneType" | .bl _ => "bool" | .int _ => "int" | .str _ => "str" | .tnil => "tuple" | .tcons _ _ => "tuple"
def isiD (d : D) (T : String) : Bool := (tyName d == T) || (tyName d == "bool" && T == "int")
def knownT (T : String) : Prop := T = "tuple" ∨ T = "bool" ∨ T = "int" ∨ T = "str"
theorem kit_D {K : PySem.W.Frag} {T : String} (h : knownT T) (d : D) : PySem.W.kitOne K (.type (tyName d)) (.type T) = some (isiD d T) := by
  rcases h with rfl | rfl | rfl | rfl <;> cases d <;> rfl
theorem DpL.ex {K : PySem.W.Frag} {H : Hp} : ∀ {d : D} {xs : List V}, DpL K H d xs → ∃ ds, d = D.tup ds ∧ Dps K H ds xs
  | .tnil, xs, h => by unfold DpL at h; subst h; exact ⟨[], rfl, .nil⟩
  | .tcons d r, xs, h => by
    unfold DpL at h
    obtain ⟨x, ys, rfl, h1, h2⟩ := h
    obtain ⟨ds, rfl, hd⟩ := DpL.ex h2
    exact ⟨d :: ds, rfl, .cons h1 hd⟩
  | .non, _, h => by unfold DpL at h; exact h.elim
  | .bl _, _, h => by unfold DpL at h; exact h.elim
  | .int _, _, h => by unfold DpL at h; exact h.elim
  | .str _, _, h => by unfold DpL at h; exact h.elim
theorem Dp.exT {K : PySem.W.Frag} {H : Hp} {d : D} {v : V} (h : Dp K H d v) (ht : tyName d = "tuple") : ∃ p vs ds, v = .ref p ∧ SqT K H p vs ∧ Dps K H ds vs ∧ d = D.tup ds := by
  cases d with
  | tnil => unfold Dp at h; obtain ⟨p, e, q⟩ := h; exact ⟨p, [], [], e, q, .nil, rfl⟩
  | tcons d r =>
    unfold Dp at h
    obtain ⟨p, x, xs, e, q, h1, h2⟩ := h
    obtain ⟨ds, rfl, hd⟩ := DpL.ex h2
    exact ⟨p, _, d :: ds, e, q, .cons h1 hd, rfl⟩
  | _ => exact absurd ht (by simp [tyName])
def rIsi (K : PySem.W.Frag) : List V → Hp → VK → Prop := fun xs H Q => ∃ x T d, xs = [x, .ty T] ∧ Dp K H d x ∧ knownT T ∧ Q (.bl (isiD d T)) H
theorem call_isiD {X : Cx} : CallR X (.builtin "isinstance") (rIsi X.K) := by
  intro pins s σ H xs us Q I r h
  obtain ⟨x, T, d, rfl, hd, hT, q⟩ := h
  obtain ⟨u, u2, rfl, r1, r2⟩ := Vals.two r
  obtain rfl : u2 = .type T := r2
  have e := kit_D (K := X.K) hT d
  by_cases ht : tyName d = "tuple"
  · obtain ⟨p, vs, ds, rfl, hS, _, _⟩ := hd.exT ht
    cases (show u = Value.ref p from r1)
    obtain ⟨its, _, hp, _⟩ := I.tuple hS
    obtain ⟨o, h1, h2, _⟩ := hp
    rw [ht] at e
    exact PySem.W.kia_one PySem.W.kitx_tuple I.kIn ⟨o, h1, h2⟩ e (fun z => nomatch z) fun tk => ⟨.bl _, H, I.tok tk, rfl, q⟩
  · cases d with
    | non => unfold Dp at hd; subst hd; exact isinst_ok I r1 .non e fun tk => ⟨.bl _, H, I.tok tk, rfl, q⟩
    | bl b => unfold Dp at hd; subst hd; exact isinst_ok I r1 (.bl _) e fun tk => ⟨.bl _, H, I.tok tk, rfl, q⟩
    | int b => unfold Dp at hd; subst hd; exact isinst_ok I r1 (.int _) e fun tk => ⟨.bl _, H, I.tok tk, rfl, q⟩
    | str b => unfold Dp at hd; subst hd; exact isinst_ok I r1 (.str _) e fun tk => ⟨.bl _, H, I.tok tk, rfl, q⟩
    | tnil => exact absurd rfl ht
    | tcons a b => exact absurd rfl ht
def D.dep : D → Nat
  | .tcons d r => max (d.dep + 1) r.dep
  | _ => 1
theorem D.dep_pos : ∀ d : D, 1 ≤ d.dep
  | .tcons d r => by unfold D.dep; have := D.dep_pos r; omega
  | .non => Nat.le_refl _
  | .bl _ => Nat.le_refl _
  | .int _ => Nat.le_refl _
  | .str _ => Nat.le_refl _
  | .tnil => Nat.le_refl _
theorem Dps.get {K : PySem.W.Frag} {H : Hp} : ∀ {ds : List D} {vs : List V} {i : Nat} {d : D}, Dps K H ds vs → ds[i]? = some d → ∃ v, vs[i]? = some v ∧ Dp K H d v
  | _, _, _, _, .nil, e => by simp at e
  | _, _, 0, _, .cons r _, e => by simp at e; subst e; exact ⟨_, rfl, r⟩
  | _, _, i + 1, d, .cons _ t, e => by
    obtain ⟨u, h1, h2⟩ := Dps.get (i := i) (d := d) t (by simpa using e)
    exact ⟨u, by simpa using h1, h2⟩
end L2

namespace L2
def D.size : D → Nat
  | .tcons d r => d.size + r.size + 1
  | _ => 1
end L2

namespace L2
open PySem PySem.Spec PyProof.Rows
inductive CS : List Expr → List Str → Prop where
  | nil : CS [] []
  | cons {x : Str} {j : Nat} {p : Pos} {r : List Expr} {zs : List Str} : CS r zs → CS (.Constant (.str x) j p :: r) (x :: zs)
def tStrs (zs : List Str) : TA := fun _ H Q => Q (zs.map V.str) H
theorem pa_strs {X : Cx} {es : List Expr} {zs : List Str} (h : CS es zs) : PA X es (tStrs zs) := by
  induction h with
  | nil => exact pa_nil
  | @cons x j p r zs _ ih =>
    intro pos pins s σ H Q I hq
    exact pa_cons (X := X) (pe_str (X := X) (x := x) (j := j) (pos := p)) ih (by rfl) pos pins s σ H Q I hq
end L2
set_option Elab.async false
set_option linter.all false
set_option maxRecDepth 100000
set_option maxHeartbeats 4000000
namespace L2
open PySem PySem.Spec PyProof.Rows
structure QE (X : Cx) (e : Expr) (t : TE) : Prop where
  h : PE X e t
structure QT (X : Cx) (e : Expr) (t : TT) : Prop where
  h : PT X e t
structure QW (X : Cx) (e : Expr) (t : TT) : Prop where
  h : PW X e t
structure QA (X : Cx) (es : List Expr) (t : TA) : Prop where
  h : PA X es t
structure QS (X : Cx) (s : Stmt) (t : TS) : Prop where
  h : PS X s t
structure QB (X : Cx) (s : List Stmt) (t : TS) : Prop where
  h : PSs X s t
structure QG (X : Cx) (e : Expr) (t : TG) : Prop where
  h : PG X e t
structure QI (X : Cx) (tg it : Expr) (t : TI) : Prop where
  h : PI X tg it t
structure QO (X : Cx) (e : Option Expr) (t : TO) : Prop where
  h : PO X e t
/-- rules at one operation, wrapped -/
structure ROp (X : Cx) (f : Value → Value → Sem Value) (r : R2) : Prop where
  h : OpR X f r
structure RUn (X : Cx) (f : Value → Sem Value) (r : V → Hp → VK → Prop) : Prop where
  h : UnR X f r
structure RCall (X : Cx) (f : Value) (r : List V → Hp → VK → Prop) : Prop where
  h : CallR X f r
structure RMt (X : Cx) (id : String) (r : V → List V → Hp → VK → Prop) : Prop where
  h : MtR X id r
structure RIx (X : Cx) (r : R2) : Prop where
  h : IxR X r
structure RSl (X : Cx) (r : V → Option Int → Option Int → Hp → VK → Prop) : Prop where
  h : SlR X r
structure RSet (X : Cx) (t : TSet) : Prop where
  h : PSet X t
section
variable {X : Cx} {a b c e o : Expr} {es : List Expr} {ta tb tc te to : TE} {t u : TA} {pos p p2 apos cpos : Pos} {x name : Str} {j : Nat} {tA tB' : TT} {rest : List Expr}
theorem o_add : ROp X (binaryOp .Add) (rI0 fun i j => .int (i + j)) := ⟨op_add⟩
theorem o_mul : ROp X (binaryOp .Mult) (rI CMul fun i j => .int (i * j)) := ⟨op_mul⟩
theorem o_mod : ROp X (binaryOp .Mod) (rI (fun _ j => 0 < j) fun i j => .int (i % j)) := ⟨op_mod⟩
theorem o_fdiv : ROp X (binaryOp .FloorDiv) (rI CDiv fun i j => .int (i / j)) := ⟨op_fdiv⟩
theorem o_pow : ROp X (binaryOp .Pow) (rI CPow fun i j => .int (i ^ j.toNat)) := ⟨op_pow⟩
theorem o_shl : ROp X (binaryOp .LShift) (rI CPow fun i j => .int (i * 2 ^ j.toNat)) := ⟨op_shl⟩
def rAddS : R2 := fun x y H Q => ∃ i j, x = .str i ∧ y = .str j ∧ i.length + j.length ≤ sizeLine ∧ Q (.str (i ++ j)) H
theorem o_add_str : ROp X (binaryOp .Add) rAddS := ⟨op_add_str⟩
theorem o_cat : ROp X (binaryOp .Add) rCatF := ⟨op_catF⟩
theorem o_eq : ROp X (compareOp .Eq) rEq := ⟨op_eq⟩
theorem o_ne : ROp X (compareOp .NotEq) rNe := ⟨op_ne⟩
theorem o_le : ROp X (compareOp .LtE) (rI0 fun i j => .bl (decide (i ≤ j))) := ⟨op_le⟩
theorem o_gt : ROp X (compareOp .Gt) (rI0 fun i j => .bl (decide (j < i))) := ⟨op_gt⟩
theorem o_ge : ROp X (compareOp .GtE) (rI0 fun i j => .bl (decide (j ≤ i))) := ⟨op_ge⟩
def rLe1 : R2 := fun x y H Q => ∃ c d, x = .str (tx [c]) ∧ y = .str (tx [d]) ∧ Q (.bl (decide (c ≤ d))) H
theorem o_le_one : ROp X (compareOp .LtE) rLe1 := ⟨op_le_one⟩
theorem o_in_one : ROp X (compareOp .In) (rInS false) := ⟨op_in_one⟩
theorem o_in_seq : ROp X (compareOp .In) (rIn X.K false) := ⟨op_in_seq⟩
theorem u_neg : RUn X (unaryOp .USub) (rU fun i => .int (-i)) := ⟨un_neg⟩
def rLenQ (K : PySem.W.Frag) : List V → Hp → VK → Prop := fun xs H Q => ∃ p ys, xs = [.ref p] ∧ (SqL K H p ys ∨ SqT K H p ys) ∧ Q (.int ys.length) H
theorem c_len_seq : RCall X (.builtin "len") (rLenQ X.K) := ⟨call_len_seq⟩
def rLenS : List V → Hp → VK → Prop := fun xs H Q => ∃ z : Str, xs = [.str z] ∧ z.length ≤ sizeLine ∧ Q (.int z.length) H
theorem c_len_str : RCall X (.builtin "len") rLenS := ⟨call_len_str⟩
def rMax : List V → Hp → VK → Prop := fun xs H Q => ∃ i j, xs = [.int i, .int j] ∧ Q (.int (if j > i then j else i)) H
def rMin : List V → Hp → VK → Prop := fun xs H Q => ∃ i j, xs = [.int i, .int j] ∧ Q (.int (if j < i then j else i)) H
theorem c_max (hc : X.calm = true := by rfl) : RCall X (.builtin "max") rMax := ⟨call_max2 hc⟩
theorem c_isi : RCall X (.builtin "isinstance") (rIsi X.K) := ⟨call_isiD⟩
def rOrd : List V → Hp → VK → Prop := fun xs H Q => ∃ x : Str, xs = [.str x] ∧ x.length = 1 ∧ Q (.int (x.cps.getD 0 0 : Nat)) H
def rInt1 : List V → Hp → VK → Prop := fun xs H Q => (∃ i, xs = [.int i] ∧ Q (.int i) H) ∨ ∃ k : Bool, xs = [.bl k] ∧ Q (.int (if k then 1 else 0)) H
theorem m_append : RMt X "list.append" rAppendF := ⟨mt_appendF⟩
theorem m_pop : RMt X "list.pop" rPopF := ⟨mt_popF⟩
theorem i_list : RIx X (rIxL X.K) := ⟨ix_list⟩
theorem i_tup : RIx X (rIxT X.K) := ⟨ix_tup⟩
theorem i_str : RIx X rIxS := ⟨ix_str⟩
theorem l_str : RSl X rSlS := ⟨sl_str⟩
theorem s_list : RSet X rSetLF := ⟨set_listF⟩
theorem qv (i : Nat) {x : Str} {pos : Pos} (hN : X.N[i]? = some x := by rfl) (hv : Vis X.env.scope x := by first | exact Or.inl rfl | exact Or.inr (Or.inl rfl) | exact Or.inr (Or.inr rfl)) (hd : (x == ("__debug__" : Str)) = false := by decide)
    (hcd : (x == ("__classdict__" : Str)) = false := by decide) : QE X (.Name x pos) (tVar i) := ⟨pv i hN hv hd hcd⟩
theorem q_int {i : Int} : QE X (.Constant (.int i) j pos) (tC (.int i)) := ⟨pe_int⟩
theorem q_bl {k : Bool} : QE X (.Constant (.bool k) j pos) (tC (.bl k)) := ⟨pe_bl⟩
theorem q_str : QE X (.Constant (.str x) j pos) (tC (.str x)) := ⟨pe_str⟩
theorem q_gc {v : V} (h : ∃ u, X.mg x = some u ∧ RelV v u) (hg : Gl X x := by rfl) (hd : (x == ("__debug__" : Str)) = false := by decide) : QE X (.Name x pos) (tC v) := ⟨pe_gc h hg hd⟩
theorem q_ty {T : String} (hm : X.mg x = none) (hv : bootBuiltins x = some (.type T)) (hg : Gl X x := by rfl) (hn : x ≠ "__name__" := by decide) (hd : (x == ("__debug__" : Str)) = false := by decide) : QE X (.Name x pos) (tC (.ty T)) := ⟨pe_bltn hg hm hv rfl hn hd⟩
theorem q_op {op : Operator} {r : R2} (ho : ROp X (binaryOp op) r) (ha : QE X a ta) (hb : QE X b tb) : QE X (.BinOp a op b pos) (tOp r ta tb) := ⟨pe_op ho.h ha.h hb.h⟩
theorem q_un {op : UnaryOp} {r : V → Hp → VK → Prop} (ho : RUn X (unaryOp op) r) (ha : QE X a ta) : QE X (.UnaryOp op a pos) (tUn r ta) := ⟨pe_un ho.h ha.h⟩
theorem q_cmp {op : CmpOp} {r : R2} (ho : ROp X (compareOp op) r) (ha : QE X a ta) (hb : QE X b tb) (hm : behindInMarks op b = false := by first | exact nomark _ | rfl) : QE X (.Compare a [op] [b] pos) (tOp r ta tb) := ⟨pe_cmpR ho.h ha.h hb.h hm⟩
theorem qt_cmp {op : CmpOp} {r : R2} (ho : ROp X (compareOp op) r) (ha : QE X a ta) (hb : QE X b tb) (hm : behindInMarks op b = false := by first | exact nomark _ | rfl) : QT X (.Compare a [op] [b] pos) (tTest (tOp r ta tb)) := ⟨pt_cmpR ho.h ha.h hb.h hm⟩
theorem q_chain {op op' : CmpOp} {r r' : R2} (ho : ROp X (compareOp op) r) (ho' : ROp X (compareOp op') r') (ha : QE X a ta) (hb : QE X b tb) (hc : QE X c tc) (hm : lastMarks [op, op'] [b, c] = false := by with_unfolding_all rfl) : QE X (.Compare a [op, op'] [b, c] pos) (tChain r r' ta tb tc) := ⟨pe_chain ho.h ho'.h ha.h hb.h hc.h hm⟩
theorem q_one {op : BoolOp} (h : QE X a ta) : QE X (.BoolOp op [a] pos) ta := ⟨pe_one h.h⟩
theorem q_or (ha : QE X a ta) (hb : QE X (.BoolOp .Or (b :: rest) pos) tb) : QE X (.BoolOp .Or (a :: b :: rest) pos) (tOrV ta tb) := ⟨pe_or ha.h hb.h⟩
theorem q_ifExp (hc : QT X c tA) (ha : QE X a ta) (hb : QE X b tb) : QE X (.IfExp c a b pos) (tIf tA ta tb) := ⟨pe_ifExp hc.h ha.h hb.h⟩
theorem qw_and1 (ha : QT X a tA) : QW X (.BoolOp .And [a] pos) tA := ⟨pw_and1 ha.h⟩
theorem qw_or1 (ha : QT X a tA) : QW X (.BoolOp .Or [a] pos) tA := ⟨pw_or1 ha.h⟩
theorem qw_and (ha : QT X a tA) (hb : QW X (.BoolOp .And (b :: rest) pos) tB') : QW X (.BoolOp .And (a :: b :: rest) pos) (tAnd tA tB') := ⟨pw_and ha.h hb.h⟩
theorem qw_or (ha : QT X a tA) (hb : QW X (.BoolOp .Or (b :: rest) pos) tB') : QW X (.BoolOp .Or (a :: b :: rest) pos) (tOr tA tB') := ⟨pw_or ha.h hb.h⟩
theorem qt_w (h : QW X e tA) : QT X e tA := ⟨h.h.pt⟩
theorem qt_not (ha : QT X a tA) : QT X (.UnaryOp .Not a pos) (tNot tA) := ⟨pt_not ha.h⟩
theorem qt_val (h : QE X e te) (he : ∀ whole, isTrue e X.env whole = (do let v ← whole; standAt e.pos; holding [v] (truthy v)) := by intro _; rfl) : QT X e (tB te) := ⟨pt_val h.h he⟩
theorem q_tup {k : Nat} (h : QA X es t) : QE X (.Tuple es k pos) (tTupF t) := ⟨pe_tupF h.h⟩
theorem q_lst (h : QA X es t) : QE X (.List es pos) (tLstF t) := ⟨pe_lstF h.h⟩
theorem qa_nil : QA X [] tNil := ⟨pa_nil⟩
theorem qa_cons (ha : QE X e te) (hr : QA X es t) (hs : starEach (e :: es) X.env = (false, eval e X.env) :: starEach es X.env := by rfl) : QA X (e :: es) (tCons te t) := ⟨pa_cons ha.h hr.h hs⟩
theorem qa_strs {zs : List Str} (h : CS es zs) : QA X es (tStrs zs) := ⟨pa_strs h⟩
theorem q_ix {r : R2} (hr : RIx X r) (ha : QE X a ta) (hb : QE X b tb) (hs : PlainIx b := by intro _ _; rfl) : QE X (.Subscript a b pos) (tOp r ta tb) := ⟨pe_ix hr.h ha.h hb.h hs⟩
theorem qo_none : QO X none tNoPart := ⟨po_none⟩
theorem qo_some (h : QE X e te) : QO X (some e) (tPart te) := ⟨po_some h.h⟩
theorem q_slice {lo hi : Option Expr} {tl th : TO} {r : V → Option Int → Option Int → Hp → VK → Prop} (hr : RSl X r) (he : QE X e te) (hl : QO X lo tl) (hu : QO X hi th) : QE X (.Subscript e (.Slice lo hi none p2) pos) (tSl r te tl th) := ⟨pe_slice hr.h he.h hl.h hu.h⟩
theorem q_has {k k' : Nat} {ps : List Str} {sp : Sp} (F : Has X.prog X.w X.K X.mg X.base k x ps sp) (hr : Room k' X.A) (hk : k ≤ k') (ha : QA X (e :: es) t) (hg : Gl X x := by rfl) (hdb : (x == ("__debug__" : Str)) = false := by decide)
    (he : starEach (e :: es) X.env = (false, eval e X.env) :: starEach es X.env := by rfl) (hpl : (backTo pos (starEach es X.env)).any (·.1) = false := by rfl) : QE X (.Call (.Name x p) (e :: es) [] pos) (tCall sp [] E0 t) := ⟨pe_has (F.mono hk) hr ha.h hg hdb he hpl⟩
theorem q_callB {id : String} {r : List V → Hp → VK → Prop} (hc : RCall X (.builtin id) r) (hm : X.mg x = none) (hv : bootBuiltins x = some (.builtin id)) (ha : QA X (e :: es) t) (hg : Gl X x := by rfl) (hn : x ≠ "__name__" := by decide) (hdb : (x == ("__debug__" : Str)) = false := by decide)
    (he : starEach (e :: es) X.env = (false, eval e X.env) :: starEach es X.env := by rfl) (hpl : (backTo pos (starEach es X.env)).any (·.1) = false := by rfl) : QE X (.Call (.Name x p) (e :: es) [] pos) (tCB r t) := ⟨pe_callB hc.h hg hm hv ha.h hn hdb he hpl⟩
theorem q_ml {id : String} {r : V → List V → Hp → VK → Prop} (slot : Slot "list" name id) (hty : typeOf (.builtin id) = pure (.type "method_descriptor")) (hm : RMt X id r) (ho : QE X o to) (ha : QA X (e :: es) t)
    (hbase : attributeBase o name X.env (eval o X.env) = eval o X.env := by rfl)
    (hfew : ((backTo cpos (starEach (e :: es) X.env)).all (fun x => !x.1) && (backToKw cpos (keywordEach [] X.env)).all (fun x => x.1.isSome)
      && decide ((e :: es).length + ([] : List Keyword).length + (if ([] : List Keyword).isEmpty then 0 else 1) < 30)) = true := by rfl)
    (hline : (apos.endLine == cpos.line) = true := by rfl) (hs : starEach (e :: es) X.env = (false, eval e X.env) :: starEach es X.env := by rfl) (hplain : (backTo cpos (starEach es X.env)).any (·.1) = false := by rfl) :
    QE X (.Call (.Attribute o name apos) (e :: es) [] cpos) (tML r to t) := ⟨pe_ml slot hty hm.h ho.h ha.h hbase hfew hline hs hplain⟩
theorem q_ml0 {id : String} {r : V → List V → Hp → VK → Prop} (slot : Slot "list" name id) (hty : typeOf (.builtin id) = pure (.type "method_descriptor")) (hm : RMt X id r) (ho : QE X o to)
    (hbase : attributeBase o name X.env (eval o X.env) = eval o X.env := by rfl) (hline : (apos.endLine == cpos.line) = true := by rfl) : QE X (.Call (.Attribute o name apos) [] [] cpos) (tML0 r to) := ⟨pe_ml0 slot hty hm.h ho.h hbase hline⟩
variable {st : Stmt} {sr : List Stmt} {ts us : TS} {g : TG}
theorem qb_nil : QB X [] tNext := ⟨pss_nil⟩
theorem qb_one (h1 : QS X st ts) : QB X [st] ts := ⟨pss_one h1.h⟩
theorem qb_cons (h1 : QS X st ts) (h2 : QB X sr us) : QB X (st :: sr) (tSeq ts us) := ⟨pss_cons h1.h h2.h⟩
theorem qs_expr (he : QE X e te) (hs : swapsWith e none pos.line X.env = pure false := by rfl) : QS X (.Expr e pos) (tDrop te) := ⟨ps_expr he.h hs⟩
theorem qs_ret (he : QE X e te) : QS X (.Return (some e) pos) (tRet te) := ⟨ps_ret he.h⟩
theorem qs_if {sa sb : List Stmt} (hc : QT X c tA) (ha : QB X sa ts) (hb : QB X sb us) : QS X (.If c sa sb pos) (tIfS tA ts us) := ⟨ps_if hc.h ha.h hb.h⟩
theorem qs_set {i : Nat} {pos' : Pos} (hN : X.N.Nodup) (hi : X.N[i]? = some x) (hx : Loc X.env.scope x) (he : QE X e te) (hs : swapsWith e (some (.Name x pos')) pos.line X.env = pure false := by rfl) (hf : X.fn x = true ∨ X.env.scope.names.lookup x = some .local := by first | exact .inl rfl | exact .inr rfl | assumption) :
    QS X (.Assign [.Name x pos'] e pos) (tAsg te (gName i)) := ⟨ps_set hN hi hx he.h hs hf⟩
theorem qs_asg {tg : Expr} (he : QE X e te) (hg : QG X tg g) (hs : swapsWithSole [tg] e pos.line X.env = pure false := by rfl) (hw : swappedStores [tg] e X.env = pure none := by rfl) (h1 : (assignEach [tg] X.env).map (·.2) = [assign tg X.env] := by rfl) : QS X (.Assign [tg] e pos) (tAsg te g) := ⟨ps_asg he.h hg.h hs hw h1⟩
theorem qg_name {i : Nat} (hN : X.N.Nodup) (hi : X.N[i]? = some x) (hx : Loc X.env.scope x) (hf : X.fn x = true ∨ X.env.scope.names.lookup x = some .local := by first | exact .inl rfl | exact .inr rfl | assumption) : QG X (.Name x pos) (gName i) := ⟨pg_name hN hi hx hf⟩
theorem qg_sub {i : Expr} {ti : TE} {tset : TSet} (ho : QE X o to) (hi : QE X i ti) (hs : RSet X tset)
    (ha : ∀ v, assign (.Subscript o i pos) X.env v = (do
      let ov ← holding [v] (eval o X.env)
      let iv ← holding [v, ov] (eval i X.env)
      standAt pos
      holding [v, ov, iv] (setItem ov iv v)
      release [v, ov, iv] []) := by intro _; rfl) : QG X (.Subscript o i pos) (gSub to ti tset) := ⟨pg_sub ho.h hi.h hs.h ha⟩
variable {tg : Expr}
theorem qi_list (hl : QE X e te) : QI X tg e (iList X.K te) := ⟨pi_list hl.h⟩
theorem qi_tup (hl : QE X e te) : QI X tg e (iTup X.K te) := ⟨pi_tup hl.h⟩
theorem qi_range1 (hm : X.mg "range" = none) (ha : QA X [a] t) (hg : Gl X "range" := by rfl) (hs : starEach [a] X.env = [(false, eval a X.env)] := by rfl) : QI X tg (.Call (.Name "range" p) [a] [] pos) (iRng1 t) := ⟨pi_range1 hg hm ha.h hs⟩
end
section
variable {X : Cx} {tg iter c : Expr} {body : List Stmt} {wi : TI} {g : TG} {tb : TS} {pos : Pos} {tA : TT}
theorem qs_for (hp : PassesOwn (model X.prog X.w) X.A X.env X.xe) (hc : X.calm = true) (hi : QI X tg iter wi) (hg : QG X tg g) (hb : QB X body tb) (hs : ∀ x, foldedSetIterable iter X.env x = pure x := by intro _; rfl) : QS X (.For tg iter body [] pos) (tFor wi g tb) := ⟨ps_for hp hc hi.h hg.h hb.h hs⟩
theorem qs_while (hp : PassesOwn (model X.prog X.w) X.A X.env X.xe) (hc : QT X c tA) (hb : QB X body tb) : QS X (.While c body [] pos) (tWhile tA tb) := ⟨ps_while hp hc.h hb.h⟩
end
end L2

namespace L2
open PySem PySem.Spec PyProof.Rows
theorem Fun.okQ {P : Program} {w : World} {K : PySem.W.Frag} {mg : Str → Option Value} {base : Heap} {x qual : Str} {st : Stmt} {f : Addr} {fd : FuncData} {N ps : List Str} {k : Nat} {sp : Sp} (F : Fun K x qual st f fd) (S : FnScope N ps (defScope st)) (len : ∀ vs H Q E, sp vs H Q E → vs.length = ps.length)
    (hbody : ∀ (cdv : Value) (A : Around) (outer : List Env) (s : Shared) (H : Hp) (vs : List V) (Q : VK) (E : XK), Room k (A.deeper (envOfC qual (defScope st) s.heap.objs.size f cdv)) → sp vs H Q E →
      ∃ t, QB (cxOf CX0 P w K mg base N qual (defScope st) f cdv A outer s H E).nox (defBody st) t ∧ t { nx := fun _ H' => Q .non H', rt := Q } (start N vs) H) : FnOk P w K mg base CX0 (k + 1) f fd ps sp :=
  F.ok S len fun cdv A outer s H vs Q E hr h => let ⟨t, h1, h2⟩ := hbody cdv A outer s H vs Q E hr h; ⟨t, h1.h, h2⟩
end L2

namespace L2
open PySem PySem.Spec PyProof.Rows
def CMulB (i j : Int) : Prop := Builtin.Int.intBits i ≤ 10000 ∧ Builtin.Int.intBits j ≤ 10000
theorem o_mulB {X : Cx} : ROp X (binaryOp .Mult) (rI CMulB fun i j => .int (i * j)) := ⟨opI fun _ _ _ _ _ _ _ hc q => mul_int q (IntMulOk.of_bits (Nat.le_trans hc.1 (by decide)) (Nat.le_trans hc.2 (by decide)))⟩
end L2
set_option Elab.async false
set_option linter.all false
set_option maxRecDepth 100000
set_option maxHeartbeats 4000000
namespace L2
open PySem PySem.Spec PyProof.Rows
end L2

namespace L2
open PySem PySem.Spec PyProof.Rows
def rSorted (K : PySem.W.Frag) : List V → Hp → VK → Prop := fun xs H Q => ∃ (p : Addr) (ys : List (List Nat)), xs = [.ref p] ∧ SqL K H p (ys.map fun l => V.str (tx l)) ∧ ys.length < 64 ∧
  ∀ zs : List (List Nat), zs.Perm ys → sortedS (zs.map tx) = true → ∀ l H2, H l = none → H2 = upd H l (.lst (zs.map fun l => V.str (tx l))) → Q (.ref l) H2
section
variable {prog : Program} {w : World} {A : Around} {E : Value → Shared → Prop} {s : Shared}
end
end L2

namespace L2
open PySem PySem.Spec PyProof.Rows
open AutoSeq1 (wpAny_loadPart')
end L2

namespace L2
open PySem PySem.Spec PyProof.Rows
open AutoSeq1 (wpAny_loadPart')
section
variable {prog : Program} {w : World} {A : Around} {E : Value → Shared → Prop} {s : Shared}
end
section
variable {X : Cx}
end
end L2

namespace L2
open PySem PySem.Spec PyProof.Rows
/-- what is left to show where the iterator has come -/
def compK (cap : List (Option Nat)) (g : TG) (tc : TT) (te : TE) (σ : St) (Q : VK) (J : It) (H1 : Hp) : Prop := ∃ W : Nat → Nat → List V → Hp → Prop, (∃ m, W 0 m [] H1) ∧ ∀ i m ys H2, W i m ys H2 →
  (J.stop i H2 ∧ ys.length ≤ sizeLine ∧ ∀ p, H2 p = none → Q (.ref p) (upd H2 p (.lst ys))) ∨
  (J.go i H2 ∧ ∀ x H3, J.yld i H2 x H3 → g x (capSt cap σ) H3 fun σ2 H4 => tc σ2 H4 fun b H5 => if b = true then te σ2 H5 fun y H6 => ys.length < sizeLine ∧ ∃ m', m' < m ∧ W (i + 1) m' (ys ++ [y]) H6 else ∃ m', m' < m ∧ W (i + 1) m' ys H5)
theorem tComp_def {cap : List (Option Nat)} {wi : TI} {g : TG} {tc : TT} {te : TE} {σ : St} {H : Hp} {Q : VK} : tComp cap wi g tc te σ H Q = wi σ H (compK cap g tc te σ Q) := rfl
section
variable {cap : List (Option Nat)} {g : TG} {tc : TT} {te : TE} {σ : St} {H1 : Hp} {Q : VK} {n : Nat}
end
end L2

namespace L2
open PySem PySem.Spec PyProof.Rows
end L2
set_option Elab.async false
set_option linter.all false
set_option maxRecDepth 100000
set_option maxHeartbeats 4000000
namespace L2
open PySem PySem.Spec PyProof.Rows
def byTx (w : World) : Bool := w.params.followText "set-order"
def TabOk (w : World) (n : Nat) (t : SetTable) : Prop := (byTx w = true ∨ t.led = true) ∧ (n = 0 ∨ t.plain = false)
section
variable {prog : Program} {w : World}
/-- the set at a holds just the texts ks -/
def SetT (prog : Program) (w : World) (h : Heap) (a : Addr) (ks : List Str) : Prop :=
  ∃ o es ep t, h.get? a = some o ∧ o.ExactSet ∧ o.data = .set es ep t ∧ ElemsOf (PySem.strKind prog w) es.toList ∧ (es.toList.map fun e => strOf e.2).Perm ks ∧ es.size < scanBound ∧ t.fits es.size = true ∧ TabOk w es.size t
theorem SetT.keep {h h' : Heap} {a : Addr} {ks : List Str} (z : SetT prog w h a ks) (k : ∀ o, h.get? a = some o → h'.get? a = some o) : SetT prog w h' a ks := let ⟨o, es, ep, t, ho, r⟩ := z; ⟨o, es, ep, t, k o ho, r⟩
variable {A : Around} {E : Value → Shared → Prop} {s : Shared}
end
end L2

namespace L2
open PySem PySem.Spec PyProof.Rows
section
variable {prog : Program} {w : World} {A : Around} {R : Result → Shared → Prop} {I : Addr} {fp wr : List Addr} {n : Nat} {P : Nat → Value → Prop} {St : Nat → Heap → Prop}
end
section
variable {prog : Program} {w : World} {A : Around} {E : Value → Shared → Prop} {s : Shared}
end
end L2
set_option Elab.async false
set_option linter.all false
set_option maxRecDepth 100000
set_option maxHeartbeats 4000000
namespace L2
open PySem PySem.Spec PyProof.Rows
section
variable {M : Model} {A : Around} {E : Value → Shared → Prop}
end
section
variable {prog : Program} {w : World} {A : Around} {E : Value → Shared → Prop} {s : Shared}
/-- the set at S, as it stands -/
structure SetAt (w : World) (h : Heap) (S : Addr) (es : Array (Int × Value)) (ep : Nat) (t : SetTable) : Prop where
  ex : ∃ o, h.get? S = some o ∧ o.ExactSet ∧ o.data = .set es ep t
  fits : t.fits es.size = true
theorem SetAt.keep {h h' : Heap} {S : Addr} {es : Array (Int × Value)} {ep : Nat} {t : SetTable} (z : SetAt w h S es ep t) (k : ∀ o, h.get? S = some o → h'.get? S = some o) : SetAt w h' S es ep t := ⟨let ⟨o, ho, r⟩ := z.ex; ⟨o, k o ho, r⟩, z.fits⟩
end
end L2

namespace L2
open PySem PySem.Spec PyProof.Rows
section
variable {prog : Program} {w : World} {A : Around} {E : Value → Shared → Prop} {s : Shared}
end
end L2
set_option Elab.async false
set_option linter.all false
set_option maxRecDepth 100000
set_option maxHeartbeats 4000000
namespace L2
open PySem PySem.Spec PyProof.Rows
section
variable {prog : Program} {w : World} {A : Around} {E : Value → Shared → Prop} {s : Shared}
end
end L2

namespace L2
open PySem PySem.Spec PyProof.Rows
section
variable {prog : Program} {w : World} {A : Around} {E : Value → Shared → Prop} {s : Shared}
end
end L2

namespace L2
open PySem PySem.Spec PyProof.Rows
section
variable {prog : Program} {w : World} {A : Around} {E : Value → Shared → Prop} {s : Shared}
end
end L2
set_option Elab.async false
set_option linter.all false
set_option maxRecDepth 100000
set_option maxHeartbeats 4000000
namespace L2
open PySem PySem.Spec PyProof.Rows
section
variable {prog : Program} {w : World} {A : Around} {E : Value → Shared → Prop} {s : Shared}
end
end L2
set_option Elab.async false
set_option linter.all false
set_option maxRecDepth 100000
set_option maxHeartbeats 4000000
namespace L2
open PySem PySem.Spec PyProof.Rows
end L2
set_option Elab.async false
set_option linter.all false
set_option maxRecDepth 100000
set_option maxHeartbeats 4000000
namespace L2
open PySem PySem.Spec PyProof.Rows
def IsRevS (h : Heap) (it : Addr) (x : Str) (t : Tok) (i : Int) : Prop := ∃ o, h.get? it = some o ∧ o.cls = .type "reversed" ∧ o.data = .fields #[.str x t, rawInt i]
theorem IsRevS.typeIs {s : Shared} {a : Addr} {x : Str} {t : Tok} {i : Int} (z : IsRevS s.heap a x t i) : s.TypeIs (.ref a) "reversed" := let ⟨o, ho, hc, _⟩ := z; ⟨o, ho, hc⟩
theorem IsRevS.keep {h h' : Heap} {a : Addr} {x : Str} {t : Tok} {i : Int} (z : IsRevS h a x t i) (e : ∀ o, h.get? a = some o → h'.get? a = some o) : IsRevS h' a x t i := let ⟨o, ho, r⟩ := z; ⟨o, e _ ho, r⟩
section
variable {prog : Program} {w : World} {A : Around} {E : Value → Shared → Prop} {s : Shared}
end
end L2
set_option Elab.async false
set_option linter.all false
set_option maxRecDepth 100000
set_option maxHeartbeats 4000000
namespace L2
open PySem PySem.Spec PyProof.Rows
end L2
set_option Elab.async false
set_option linter.all false
set_option maxRecDepth 100000
set_option maxHeartbeats 4000000
namespace L2
open PySem PySem.Spec PyProof.Rows
section
variable {X : Cx} {elt tg iter : Expr} {ifs : List Expr} {scope : Scope} {pos : Pos} {nm : List Str} {cl : List (Str × Addr)} {cap : List (Option Nat)} {wi : TI} {g : TG} {tc : TT} {te : TE}
end
end L2
set_option Elab.async false
set_option linter.all false
set_option maxRecDepth 100000
set_option maxHeartbeats 4000000
namespace L2
open PySem PySem.Spec PyProof.Rows
end L2

namespace L2
open PySem PySem.Spec PyProof.Rows
open AutoSeq1 (wpAny_loadPart')
end L2
set_option Elab.async false
set_option linter.all false
set_option maxRecDepth 100000
set_option maxHeartbeats 4000000
namespace P
open PySem L2
open PyProof.Rows (boot_int boot_str boot_bool boot_list boot_tuple boot_isinstance boot_max boot_min)
def top (i : Nat) : Stmt := PySem.Challenge.pw_trunksay_k15_ways.main.body.getD i (.Pass ⟨0, 0, 0, 0⟩)
abbrev s_is_small : Stmt := top 1
abbrev n_is_small : List Str := ["letter"]
abbrev p_is_small : List Str := ["letter"]
theorem sc_is_small : FnScope n_is_small p_is_small (defScope s_is_small) := ⟨rfl, rfl, rfl, by decide +kernel, rfl, by decide +kernel, by decide +kernel⟩
abbrev s_two_to : Stmt := top 2
abbrev n_two_to : List Str := ["exponent", "power", "each"]
abbrev p_two_to : List Str := ["exponent"]
theorem sc_two_to : FnScope n_two_to p_two_to (defScope s_two_to) := ⟨rfl, rfl, rfl, by decide +kernel, rfl, by decide +kernel, by decide +kernel⟩
abbrev s_is_plain : Stmt := top 6
abbrev n_is_plain : List Str := ["statement"]
abbrev p_is_plain : List Str := ["statement"]
theorem sc_is_plain : FnScope n_is_plain p_is_plain (defScope s_is_plain) := ⟨rfl, rfl, rfl, by decide +kernel, rfl, by decide +kernel, by decide +kernel⟩
abbrev s_choices_many : Stmt := top 8
abbrev n_choices_many : List Str := ["letter", "size"]
abbrev p_choices_many : List Str := ["letter", "size"]
theorem sc_choices_many : FnScope n_choices_many p_choices_many (defScope s_choices_many) := ⟨rfl, rfl, rfl, by decide +kernel, rfl, by decide +kernel, by decide +kernel⟩
abbrev s_ways_of : Stmt := top 9
abbrev n_ways_of : List Str := ["statement", "size", "word"]
abbrev p_ways_of : List Str := ["statement", "size"]
theorem sc_ways_of : FnScope n_ways_of p_ways_of (defScope s_ways_of) := ⟨rfl, rfl, rfl, by decide +kernel, rfl, by decide +kernel, by decide +kernel⟩
abbrev s__law_cell : Stmt := top 11
abbrev n__law_cell : List Str := ["_law_script", "_law_k"]
abbrev p__law_cell : List Str := ["_law_script", "_law_k"]
theorem sc__law_cell : FnScope n__law_cell p__law_cell (defScope s__law_cell) := ⟨rfl, rfl, rfl, by decide +kernel, rfl, by decide +kernel, by decide +kernel⟩
abbrev s__law_mixed : Stmt := top 12
abbrev n__law_mixed : List Str := ["_law_cell_here", "_law_k", "_law_salt", "_law_first"]
abbrev p__law_mixed : List Str := ["_law_cell_here", "_law_k", "_law_salt"]
theorem sc__law_mixed : FnScope n__law_mixed p__law_mixed (defScope s__law_mixed) := ⟨rfl, rfl, rfl, by decide +kernel, rfl, by decide +kernel, by decide +kernel⟩
abbrev s__law_draws : Stmt := top 13
abbrev n__law_draws : List Str := ["_law_cell_here", "_law_many", "_law_salt", "_law_found", "_law_rest", "_law_k"]
abbrev p__law_draws : List Str := ["_law_cell_here", "_law_many", "_law_salt"]
theorem sc__law_draws : FnScope n__law_draws p__law_draws (defScope s__law_draws) := ⟨rfl, rfl, rfl, by decide +kernel, rfl, by decide +kernel, by decide +kernel⟩
abbrev s__law_pool : Stmt := top 14
abbrev n__law_pool : List Str := ["_law_cell_here", "_law_many", "_law_salt", "_law_rest", "_law_found", "_law_d", "_law_at"]
abbrev p__law_pool : List Str := ["_law_cell_here", "_law_many", "_law_salt"]
theorem sc__law_pool : FnScope n__law_pool p__law_pool (defScope s__law_pool) := ⟨rfl, rfl, rfl, by decide +kernel, rfl, by decide +kernel, by decide +kernel⟩
abbrev s__law_built : Stmt := top 15
abbrev n__law_built : List Str := ["_law_draws_here", "_law_many", "_law_pool_here", "_law_words", "_law_heap", "_law_parts", "_law_k", "_law_at", "_law_a", "_law_b", "_law_last", "_law_inner"]
abbrev p__law_built : List Str := ["_law_draws_here", "_law_many", "_law_pool_here"]
theorem sc__law_built : FnScope n__law_built p__law_built (defScope s__law_built) := ⟨rfl, rfl, rfl, by decide +kernel, rfl, by decide +kernel, by decide +kernel⟩
abbrev s__law_one_of : Stmt := top 16
abbrev n__law_one_of : List Str := ["_law_script", "_law_k", "_law_sizes", "_law_pool_here", "_law_draws_here"]
abbrev p__law_one_of : List Str := ["_law_script", "_law_k"]
theorem sc__law_one_of : FnScope n__law_one_of p__law_one_of (defScope s__law_one_of) := ⟨rfl, rfl, rfl, by decide +kernel, rfl, by decide +kernel, by decide +kernel⟩
abbrev s__law_ways : Stmt := top 17
abbrev n__law_ways : List Str := ["_law_said", "_law_many"]
abbrev p__law_ways : List Str := ["_law_said", "_law_many"]
theorem sc__law_ways : FnScope n__law_ways p__law_ways (defScope s__law_ways) := ⟨rfl, rfl, rfl, by decide +kernel, rfl, by decide +kernel, by decide +kernel⟩
abbrev s_law : Stmt := top 18
abbrev n_law : List Str := ["_law_script", "_law_first", "_law_second", "_law_drawn", "_law_sizes", "_law_said", "_law_many", "_law_found"]
abbrev p_law : List Str := ["_law_script"]
theorem sc_law : FnScope n_law p_law (defScope s_law) := ⟨rfl, rfl, rfl, by decide +kernel, rfl, by decide +kernel, by decide +kernel⟩
structure Bl (mg : Str → Option Value) : Prop where
  bool : mg "bool" = Option.none
  int : mg "int" = Option.none
  isinstance : mg "isinstance" = Option.none
  len : mg "len" = Option.none
  max : mg "max" = Option.none
  range : mg "range" = Option.none
section
variable {P : Program} {w : World} {K : PySem.W.Frag} {mg : Str → Option Value} {base : Heap} {f : Addr} {fd : FuncData}
theorem lt_line {n : Nat} (h : n < 1000000) : n < sizeLine := Nat.lt_of_lt_of_le h (by decide)
theorem le_line {n : Nat} (h : n < 1000000) : n ≤ sizeLine := Nat.le_of_lt (lt_line h)
theorem cmul_l {i j : Int} (a : -(2 ^ 64) < i) (b : i < 2 ^ 64) : CMul i j := .inl ⟨a, b⟩
theorem cmul_r {i j : Int} (a : -(2 ^ 64) < j) (b : j < 2 ^ 64) : CMul i j := .inr ⟨a, b⟩
/-! ### _law_cell -/
def cellM (ns : List Int) (k : Int) : Int := if ns.length = 0 then 0 else ns.getD (k % ns.length).toNat 0
def spCell (K : PySem.W.Frag) : Sp := fun vs H Q _ => ∃ (a : Addr) (ns : List Int) (k : Int), vs = [.ref a, .int k] ∧ SqL K H a (ns.map V.int) ∧ Q (.int (cellM ns k)) H
theorem atI_cell {ns : List Int} {k : Int} (h : ns.length ≠ 0) : atI (ns.map V.int) (k % (ns.length : Int)) = some (.int (ns.getD (k % ns.length).toNat 0)) := by
  have h0 : 0 ≤ k % (ns.length : Int) := Int.emod_nonneg _ (by omega)
  have h1 : k % (ns.length : Int) < ns.length := Int.emod_lt_of_pos _ (by omega)
  have e : k % (ns.length : Int) = (((k % (ns.length : Int)).toNat : Nat) : Int) := by omega
  have hk : (k % (ns.length : Int)).toNat < ns.length := by omega
  rw [e]
  refine atI_nat ?_
  rw [Int.toNat_natCast, List.getElem?_map, List.getElem?_eq_getElem hk, List.getD_eq_getElem?_getD, List.getElem?_eq_getElem hk]
  rfl
theorem ok_cell (F : Fun K "_law_cell" "_law_cell" s__law_cell f fd) (B : Bl mg) : FnOk P w K mg base CX0 1 f fd p__law_cell (spCell K) := by
  refine F.okQ sc__law_cell (fun vs H Q E h => ?_) (fun cdv A outer s H vs Q E hr h => ?_)
  · obtain ⟨a, ns, k, rfl, _⟩ := h; rfl
  obtain ⟨a, ns, k, rfl, hS, q⟩ := h
  refine ⟨_, (qb_cons (qs_if (qt_cmp o_eq (q_callB c_len_seq B.len PySem.boot_len (qa_cons (qv 0) qa_nil)) q_int) (qb_one (qs_ret q_int)) qb_nil) (qb_one (qs_ret (q_ix i_list (qv 0) (q_op o_mod (qv 1) (q_callB c_len_seq B.len PySem.boot_len (qa_cons (qv 0) qa_nil))))))), ?_⟩
  simp only [tRevS, rSorted, tYes, tComp_def, cxOf, rLenQ, rLenS, rAddS, rLe1, rMax, rMin, rOrd, rInt1, tStrs, rIsi, if_true, if_false, Bool.false_eq_true, tTupF, tLstF, rAppendF, rPopF, rSetLF, rTupleOf, rListOf, rCatF, scal_ss, scal_ii, scal_bb, V_str_eq, V_int_eq, V_bl_eq, tML, tMS, tML0, rJoin, upd_same, upd_upd, HO.lst.injEq, exists_const, and_self, and_assoc, tSeq, tAsg, gName, tC, tVar, tOp, tUn, rI, rI0, rU, tTest, tB, tIfS, tRet, tRetN, tNext, tDrop, tCB, tCons, tNil, tTup, tLst, tCall, tBM, tBM0, tyV, rAppend, rPop, rEq, rNe, rIxL, rIxT, rIxS, tAnd, tOr, tNot, tAndV, tOrV, tNotV, tIf, tIsN, tNotN, tChain, tSl, tNoPart, tPart, rSlS, rInS, rCat, rCatT, gSub, rSetL, gTup, gCons, gNil, L2.start, List.map, List.length, List.replicate, List.getElem?_cons_zero, List.getElem?_cons_succ, List.set_cons_zero, List.set_cons_succ, List.cons_append, List.nil_append, List.append_nil, Option.some.injEq, exists_eq_left', V.ref.injEq, V.int.injEq, V.str.injEq, V.bl.injEq, V.ty.injEq, List.cons.injEq, and_true, true_and, exists_and_left, exists_eq_left, exists_eq', exists_eq_right, Nat.add_one_sub_one, Nat.sub_self, Nat.reduceAdd, Nat.reduceSub]
  refine ⟨_, .inl hS, ?_⟩
  rw [List.length_map]
  refine ite2 (fun c => ?_) (fun c => ?_)
  · have c : ns.length = 0 := by simpa using c
    unfold cellM at q; rw [if_pos c] at q; exact q
  · have c : ns.length ≠ 0 := by simpa using c
    unfold cellM at q; rw [if_neg c] at q
    refine ⟨_, .inl hS, ?_⟩
    rw [List.length_map]
    exact ⟨by omega, _, hS, _, atI_cell c, q⟩
/-! ### _law_mixed: some number from 0 on -/
def spMixed : Sp := fun vs H Q _ => ∃ (c k salt : Int), vs = [.int c, .int k, .int salt] ∧ 0 ≤ k ∧ k < 10000 ∧ ∀ r : Int, 0 ≤ r → Q (.int r) H
theorem ok_mixed (F : Fun K "_law_mixed" "_law_mixed" s__law_mixed f fd) : FnOk P w K mg base CX0 1 f fd p__law_mixed spMixed := by
  refine F.okQ sc__law_mixed (fun vs H Q E h => ?_) (fun cdv A outer s H vs Q E hr h => ?_)
  · obtain ⟨c, k, salt, rfl, _⟩ := h; rfl
  obtain ⟨c, k, salt, rfl, h0, h1, q⟩ := h
  refine ⟨_, (qb_cons (qs_set (i := 3) sc__law_mixed.nd rfl (Or.inl rfl) (q_op o_mod (q_op o_mul (q_op o_add (q_op o_add (q_op o_add (qv 0) (q_op o_mul (q_op o_mul q_int (qv 1)) (qv 1))) (q_op o_mul q_int (qv 1))) (qv 2)) q_int) q_int)) (qb_one (qs_ret (q_op o_mod (q_op o_mul (q_op o_mod (q_op o_add (q_op o_add (q_op o_mul (qv 3) (q_op o_add (q_op o_fdiv (qv 3) q_int) q_int)) (q_op o_mul q_int (qv 1))) (qv 2)) q_int) q_int) q_int)))), ?_⟩
  simp only [tRevS, rSorted, tYes, tComp_def, cxOf, rLenQ, rLenS, rAddS, rLe1, rMax, rMin, rOrd, rInt1, tStrs, rIsi, if_true, if_false, Bool.false_eq_true, tTupF, tLstF, rAppendF, rPopF, rSetLF, rTupleOf, rListOf, rCatF, scal_ss, scal_ii, scal_bb, V_str_eq, V_int_eq, V_bl_eq, tML, tMS, tML0, rJoin, upd_same, upd_upd, HO.lst.injEq, exists_const, and_self, and_assoc, tSeq, tAsg, gName, tC, tVar, tOp, tUn, rI, rI0, rU, tTest, tB, tIfS, tRet, tRetN, tNext, tDrop, tCB, tCons, tNil, tTup, tLst, tCall, tBM, tBM0, tyV, rAppend, rPop, rEq, rNe, rIxL, rIxT, rIxS, tAnd, tOr, tNot, tAndV, tOrV, tNotV, tIf, tIsN, tNotN, tChain, tSl, tNoPart, tPart, rSlS, rInS, rCat, rCatT, gSub, rSetL, gTup, gCons, gNil, L2.start, List.map, List.length, List.replicate, List.getElem?_cons_zero, List.getElem?_cons_succ, List.set_cons_zero, List.set_cons_succ, List.cons_append, List.nil_append, List.append_nil, Option.some.injEq, exists_eq_left', V.ref.injEq, V.int.injEq, V.str.injEq, V.bl.injEq, V.ty.injEq, List.cons.injEq, and_true, true_and, exists_and_left, exists_eq_left, exists_eq', exists_eq_right, Nat.add_one_sub_one, Nat.sub_self, Nat.reduceAdd, Nat.reduceSub]
  have f0 : 0 ≤ (c + 7 * k * k + 13 * k + salt) * 69621 % 2147483647 := Int.emod_nonneg _ (by decide)
  have f1 : (c + 7 * k * k + 13 * k + salt) * 69621 % 2147483647 < 2147483647 := Int.emod_lt_of_pos _ (by decide)
  refine ⟨cmul_l (by decide) (by decide), cmul_r (by omega) (by omega), cmul_l (by decide) (by decide), cmul_r (by decide) (by decide), by decide, ⟨by decide, by decide⟩, cmul_l (by omega) (by omega), cmul_l (by decide) (by decide), by decide, cmul_r (by decide) (by decide), by decide, ?_⟩
  exact q _ (Int.emod_nonneg _ (by decide))
/-! ### _law_draws: numbers from 0 on, as many as asked -/
def spDraws : Sp := fun vs H Q _ => ∃ (c n salt : Int), vs = [.int c, .int n, .int salt] ∧ 0 ≤ n ∧ n ≤ 1000 ∧ ∀ ds : List Int, ds.length = n.toNat → (∀ d ∈ ds, 0 ≤ d) → ∀ l, H l = none → Q (.ref l) (upd H l (.lst (ds.map V.int)))
theorem ok_draws (F : Fun K "_law_draws" "_law_draws" s__law_draws f fd) (B : Bl mg) (h__law_mixed : Has P w K mg base 1 "_law_mixed" p__law_mixed spMixed) : FnOk P w K mg base CX0 2 f fd p__law_draws spDraws := by
  refine F.okQ sc__law_draws (fun vs H Q E h => ?_) (fun cdv A outer s H vs Q E hr h => ?_)
  · obtain ⟨c, n, salt, rfl, _⟩ := h; rfl
  obtain ⟨c, n, salt, rfl, h0, h1, q⟩ := h
  refine ⟨_, (qb_cons (qs_set (i := 3) sc__law_draws.nd rfl (Or.inl rfl) (q_lst qa_nil)) (qb_cons (qs_set (i := 4) sc__law_draws.nd rfl (Or.inl rfl) q_int) (qb_cons (qs_if (qt_cmp o_ge (qv 0) (q_op o_pow q_int q_int)) (qb_one (qs_set (i := 4) sc__law_draws.nd rfl (Or.inl rfl) (qv 0))) qb_nil) (qb_cons (qs_for PassesOwn.never rfl (qi_range1 B.range (qa_cons (qv 1) qa_nil)) (qg_name (i := 5) sc__law_draws.nd rfl (Or.inl rfl)) (qb_one (qs_if (qt_cmp o_gt (qv 4) q_int) (qb_cons (qs_expr (q_ml PySem.F.slot_list_append PySem.F.type_list_append m_append (qv 3) (qa_cons (q_op o_mod (qv 4) q_int) qa_nil))) (qb_one (qs_set (i := 4) sc__law_draws.nd rfl (Or.inl rfl) (q_op o_fdiv (qv 4) q_int)))) (qb_one (qs_expr (q_ml PySem.F.slot_list_append PySem.F.type_list_append m_append (qv 3) (qa_cons (q_has h__law_mixed hr (by omega) (qa_cons (qv 0) (qa_cons (qv 5) (qa_cons (qv 2) qa_nil)))) qa_nil))))))) (qb_one (qs_ret (qv 3))))))), ?_⟩
  simp only [tRevS, rSorted, tYes, tComp_def, cxOf, rLenQ, rLenS, rAddS, rLe1, rMax, rMin, rOrd, rInt1, tStrs, rIsi, if_true, if_false, Bool.false_eq_true, tTupF, tLstF, rAppendF, rPopF, rSetLF, rTupleOf, rListOf, rCatF, scal_ss, scal_ii, scal_bb, V_str_eq, V_int_eq, V_bl_eq, tML, tMS, tML0, rJoin, upd_same, upd_upd, HO.lst.injEq, exists_const, and_self, and_assoc, tSeq, tAsg, gName, tC, tVar, tOp, tUn, rI, rI0, rU, tTest, tB, tIfS, tRet, tRetN, tNext, tDrop, tCB, tCons, tNil, tTup, tLst, tCall, tBM, tBM0, tyV, rAppend, rPop, rEq, rNe, rIxL, rIxT, rIxS, tAnd, tOr, tNot, tAndV, tOrV, tNotV, tIf, tIsN, tNotN, tChain, tSl, tNoPart, tPart, rSlS, rInS, rCat, rCatT, gSub, rSetL, gTup, gCons, gNil, L2.start, List.map, List.length, List.replicate, List.getElem?_cons_zero, List.getElem?_cons_succ, List.set_cons_zero, List.set_cons_succ, List.cons_append, List.nil_append, List.append_nil, Option.some.injEq, exists_eq_left', V.ref.injEq, V.int.injEq, V.str.injEq, V.bl.injEq, V.ty.injEq, List.cons.injEq, and_true, true_and, exists_and_left, exists_eq_left, exists_eq', exists_eq_right, Nat.add_one_sub_one, Nat.sub_self, Nat.reduceAdd, Nat.reduceSub]
  refine ⟨Nat.zero_le _, fun l H1 hl e1 => ?_⟩
  subst e1
  refine ⟨⟨by decide, by decide, by decide⟩, ?_⟩
  refine ite2 (fun cc => ?_) (fun cc => ?_)
  all_goals
    refine ⟨_, rfl, n, rfl, by omega, by omega, for_range (fun i σ H' => ∃ (ds : List Int) (r : Int) (o : Option V), σ = [some (.int c), some (.int n), some (.int salt), some (.ref l), some (.int r), o] ∧ H' = upd H l (.lst (ds.map V.int)) ∧ ds.length = i ∧ (∀ d ∈ ds, 0 ≤ d) ∧ 0 ≤ r) ⟨[], _, none, rfl, rfl, rfl, by simp, by simp at cc; omega⟩ ?_ ?_⟩
    · rintro i σ H' hi ⟨ds, r, o, rfl, rfl, hd, ha, hr0⟩
      simp only [tRevS, rSorted, tYes, tComp_def, cxOf, rLenQ, rLenS, rAddS, rLe1, rMax, rMin, rOrd, rInt1, tStrs, rIsi, if_true, if_false, Bool.false_eq_true, tTupF, tLstF, rAppendF, rPopF, rSetLF, rTupleOf, rListOf, rCatF, scal_ss, scal_ii, scal_bb, V_str_eq, V_int_eq, V_bl_eq, tML, tMS, tML0, rJoin, upd_same, upd_upd, HO.lst.injEq, exists_const, and_self, and_assoc, tSeq, tAsg, gName, tC, tVar, tOp, tUn, rI, rI0, rU, tTest, tB, tIfS, tRet, tRetN, tNext, tDrop, tCB, tCons, tNil, tTup, tLst, tCall, tBM, tBM0, tyV, rAppend, rPop, rEq, rNe, rIxL, rIxT, rIxS, tAnd, tOr, tNot, tAndV, tOrV, tNotV, tIf, tIsN, tNotN, tChain, tSl, tNoPart, tPart, rSlS, rInS, rCat, rCatT, gSub, rSetL, gTup, gCons, gNil, L2.start, List.map, List.length, List.replicate, List.getElem?_cons_zero, List.getElem?_cons_succ, List.set_cons_zero, List.set_cons_succ, List.cons_append, List.nil_append, List.append_nil, Option.some.injEq, exists_eq_left', V.ref.injEq, V.int.injEq, V.str.injEq, V.bl.injEq, V.ty.injEq, List.cons.injEq, and_true, true_and, exists_and_left, exists_eq_left, exists_eq', exists_eq_right, Nat.add_one_sub_one, Nat.sub_self, Nat.reduceAdd, Nat.reduceSub, spMixed]
      refine ite2 (fun cc => ?_) (fun cc => ?_)
      · have cc : 0 < r := by simpa using cc
        refine ⟨by decide, by rw [List.length_map]; exact lt_line (by omega), fun H2 e2 => ⟨⟨by decide, by decide⟩, ds ++ [r % 64], by rw [e2, List.map_append]; rfl, by simp; omega, fun d hd' => ?_, Int.ediv_nonneg hr0 (by decide)⟩⟩
        rcases List.mem_append.mp hd' with z | z
        · exact ha d z
        · rw [List.mem_singleton] at z; rw [z]; exact Int.emod_nonneg _ (by decide)
      · refine ⟨by omega, by omega, fun v hv => ⟨by rw [List.length_map]; exact lt_line (by omega), fun H2 e2 => ⟨ds ++ [v], by rw [e2, List.map_append]; rfl, by simp; omega, fun d hd' => ?_, hr0⟩⟩⟩
        rcases List.mem_append.mp hd' with z | z
        · exact ha d z
        · rw [List.mem_singleton] at z; rw [z]; exact hv
    · rintro σ H' ⟨ds, r, o, rfl, rfl, hd, ha, hr0⟩
      exact ⟨_, rfl, q ds (by omega) ha l hl⟩
theorem tx_lit : Str.ofString "ABCDEFGHIJKLMNOPQRSTUVWXYZabcdefghijklmnopqrstuvwxyz" = tx [65, 66, 67, 68, 69, 70, 71, 72, 73, 74, 75, 76, 77, 78, 79, 80, 81, 82, 83, 84, 85, 86, 87, 88, 89, 90, 97, 98, 99, 100, 101, 102, 103, 104, 105, 106, 107, 108, 109, 110, 111, 112, 113, 114, 115, 116, 117, 118, 119, 120, 121, 122] := by decide +kernel
theorem tx_nil : Str.ofString "" = tx [] := by decide +kernel
/-! ### _law_pool: some signs, as many as asked -/
def spPool : Sp := fun vs H Q _ => ∃ (c n salt : Int), vs = [.int c, .int n, .int salt] ∧ 0 ≤ n ∧ n ≤ 52 ∧ ∀ l : List Nat, l.length = n.toNat → ∀ H', Same H H' → Q (.str (tx l)) H'
theorem atI_tx {l : List Nat} {k : Int} (h : l.length ≠ 0) : ∃ c, atI l (k % (l.length : Int)) = some c := by
  have h0 : 0 ≤ k % (l.length : Int) := Int.emod_nonneg _ (by omega)
  have h1 : k % (l.length : Int) < l.length := Int.emod_lt_of_pos _ (by omega)
  have e : k % (l.length : Int) = (((k % (l.length : Int)).toNat : Nat) : Int) := by omega
  have hk : (k % (l.length : Int)).toNat < l.length := by omega
  exact ⟨_, by rw [e]; exact atI_nat (List.getElem?_eq_getElem hk)⟩
theorem ok_pool (F : Fun K "_law_pool" "_law_pool" s__law_pool f fd) (B : Bl mg) (h__law_draws : Has P w K mg base 2 "_law_draws" p__law_draws spDraws) : FnOk P w K mg base CX0 3 f fd p__law_pool spPool := by
  refine F.okQ sc__law_pool (fun vs H Q E h => ?_) (fun cdv A outer s H vs Q E hr h => ?_)
  · obtain ⟨c, n, salt, rfl, _⟩ := h; rfl
  obtain ⟨c, n, salt, rfl, h0, h1, q⟩ := h
  refine ⟨_, (qb_cons (qs_set (i := 3) sc__law_pool.nd rfl (Or.inl rfl) q_str) (qb_cons (qs_set (i := 4) sc__law_pool.nd rfl (Or.inl rfl) q_str) (qb_cons (qs_for PassesOwn.never rfl (qi_list (q_has h__law_draws hr (by omega) (qa_cons (qv 0) (qa_cons (qv 1) (qa_cons (qv 2) qa_nil))))) (qg_name (i := 5) sc__law_pool.nd rfl (Or.inl rfl)) (qb_cons (qs_set (i := 6) sc__law_pool.nd rfl (Or.inl rfl) (q_op o_mod (qv 5) (q_callB c_len_str B.len PySem.boot_len (qa_cons (qv 3) qa_nil)))) (qb_cons (qs_set (i := 4) sc__law_pool.nd rfl (Or.inl rfl) (q_op o_add_str (qv 4) (q_ix i_str (qv 3) (qv 6)))) (qb_one (qs_set (i := 3) sc__law_pool.nd rfl (Or.inl rfl) (q_op o_add_str (q_slice l_str (qv 3) qo_none (qo_some (qv 6))) (q_slice l_str (qv 3) (qo_some (q_op o_add (qv 6) q_int)) qo_none))))))) (qb_one (qs_ret (qv 4)))))), ?_⟩
  simp only [tRevS, rSorted, tYes, tComp_def, cxOf, rLenQ, rLenS, rAddS, rLe1, rMax, rMin, rOrd, rInt1, tStrs, rIsi, if_true, if_false, Bool.false_eq_true, tTupF, tLstF, rAppendF, rPopF, rSetLF, rTupleOf, rListOf, rCatF, scal_ss, scal_ii, scal_bb, V_str_eq, V_int_eq, V_bl_eq, tML, tMS, tML0, rJoin, upd_same, upd_upd, HO.lst.injEq, exists_const, and_self, and_assoc, tSeq, tAsg, gName, tC, tVar, tOp, tUn, rI, rI0, rU, tTest, tB, tIfS, tRet, tRetN, tNext, tDrop, tCB, tCons, tNil, tTup, tLst, tCall, tBM, tBM0, tyV, rAppend, rPop, rEq, rNe, rIxL, rIxT, rIxS, tAnd, tOr, tNot, tAndV, tOrV, tNotV, tIf, tIsN, tNotN, tChain, tSl, tNoPart, tPart, rSlS, rInS, rCat, rCatT, gSub, rSetL, gTup, gCons, gNil, L2.start, List.map, List.length, List.replicate, List.getElem?_cons_zero, List.getElem?_cons_succ, List.set_cons_zero, List.set_cons_succ, List.cons_append, List.nil_append, List.append_nil, Option.some.injEq, exists_eq_left', V.ref.injEq, V.int.injEq, V.str.injEq, V.bl.injEq, V.ty.injEq, List.cons.injEq, and_true, true_and, exists_and_left, exists_eq_left, exists_eq', exists_eq_right, Nat.add_one_sub_one, Nat.sub_self, Nat.reduceAdd, Nat.reduceSub, spDraws]
  refine ⟨_, rfl, _, rfl, _, rfl, c, n, salt, rfl, by omega, by omega, fun ds hd ha l hl => ⟨l, rfl, ⟨_, .of upd_same⟩, ?_⟩⟩
  refine for_list (xs := ds.map V.int) (fun i σ H' => ∃ (rest found : List Nat) (o p : Option V), σ = [some (.int c), some (.int n), some (.int salt), some (.str (tx rest)), some (.str (tx found)), o, p] ∧ H' = upd H l (.lst (ds.map V.int)) ∧ found.length = i ∧ rest.length + i = 52)
    ⟨_, [], none, none, by rw [tx_lit, tx_nil], rfl, rfl, by decide⟩ (fun i σ H' _ ⟨_, _, _, _, _, e, _⟩ => by rw [e]; exact .of upd_same) ?_ ?_
  · rintro i x σ H' hx ⟨rest, found, o, p, rfl, rfl, hf, hr'⟩
    have hi : i < ds.length := by
      have := List.getElem?_eq_some_iff.mp hx
      obtain ⟨z, _⟩ := this
      simpa using z
    obtain ⟨d, rfl⟩ : ∃ d, x = V.int d := by
      rw [List.getElem?_map] at hx
      cases e : ds[i]? with
      | none => rw [e] at hx; cases hx
      | some d => rw [e] at hx; exact ⟨d, (Option.some.inj hx).symm⟩
    have hn : rest.length ≠ 0 := by omega
    obtain ⟨sg, hsg⟩ := atI_tx (k := d) hn
    have a0 : 0 ≤ d % (rest.length : Int) := Int.emod_nonneg _ (by omega)
    have a1 : d % (rest.length : Int) < rest.length := Int.emod_lt_of_pos _ (by omega)
    simp only [tRevS, rSorted, tYes, tComp_def, cxOf, rLenQ, rLenS, rAddS, rLe1, rMax, rMin, rOrd, rInt1, tStrs, rIsi, if_true, if_false, Bool.false_eq_true, tTupF, tLstF, rAppendF, rPopF, rSetLF, rTupleOf, rListOf, rCatF, scal_ss, scal_ii, scal_bb, V_str_eq, V_int_eq, V_bl_eq, tML, tMS, tML0, rJoin, upd_same, upd_upd, HO.lst.injEq, exists_const, and_self, and_assoc, tSeq, tAsg, gName, tC, tVar, tOp, tUn, rI, rI0, rU, tTest, tB, tIfS, tRet, tRetN, tNext, tDrop, tCB, tCons, tNil, tTup, tLst, tCall, tBM, tBM0, tyV, rAppend, rPop, rEq, rNe, rIxL, rIxT, rIxS, tAnd, tOr, tNot, tAndV, tOrV, tNotV, tIf, tIsN, tNotN, tChain, tSl, tNoPart, tPart, rSlS, rInS, rCat, rCatT, gSub, rSetL, gTup, gCons, gNil, L2.start, List.map, List.length, List.replicate, List.getElem?_cons_zero, List.getElem?_cons_succ, List.set_cons_zero, List.set_cons_succ, List.cons_append, List.nil_append, List.append_nil, Option.some.injEq, exists_eq_left', V.ref.injEq, V.int.injEq, V.str.injEq, V.bl.injEq, V.ty.injEq, List.cons.injEq, and_true, true_and, exists_and_left, exists_eq_left, exists_eq', exists_eq_right, Nat.add_one_sub_one, Nat.sub_self, Nat.reduceAdd, Nat.reduceSub, tx_len, tx_cps, tx_one, tx_app, tx_inj, hsg]
    rw [cutN_upto a0, cutN_from (by omega)]
    have l1 : (rest.take (d % (rest.length : Int)).toNat).length = (d % (rest.length : Int)).toNat := by rw [List.length_take]; omega
    have l2 : (rest.drop (d % (rest.length : Int) + 1).toNat).length = rest.length - (d % (rest.length : Int) + 1).toNat := by rw [List.length_drop]
    rw [List.length_append, List.length_append, l1, l2]
    refine ⟨le_line (by omega), by omega, le_line (by omega), le_line (by omega), le_line (by omega), le_line (by omega), le_line (by omega), by simp; omega, by omega⟩
  · rintro σ H' ⟨rest, found, o, p, rfl, rfl, hf, hr'⟩
    exact ⟨_, rfl, q found (by simpa [hd] using hf) _ (same_new hl _)⟩
end
end P
set_option Elab.async false
set_option linter.all false
set_option maxRecDepth 100000
set_option maxHeartbeats 4000000
namespace P
open PySem L2
open PyProof.Rows (boot_int boot_str boot_bool boot_list boot_tuple boot_isinstance boot_max boot_min)
/-! ### statements; a letter by its code -/
inductive Stm where
  | two (w : _root_.Fin 4) (a b : Nat) | one (a : Nat) | neg (s : Stm) | bin (o : Bool) (s t : Stm) | bnd (al : Bool) (a : Nat) (s : Stm)
def w2 (w : _root_.Fin 4) : List Nat := match w with | 0 => [105, 110] | 1 => [108, 101, 102, 116] | 2 => [114, 105, 103, 104, 116] | 3 => [98, 101, 108, 111, 119]
def wOne : List Nat := [111, 110, 101]
def wNot : List Nat := [110, 111, 116]
def wJ (o : Bool) : List Nat := if o then [111, 114] else [97, 110, 100]
def wB (al : Bool) : List Nat := if al then [97, 108, 108] else [115, 111, 109, 101]
def wHide : List Nat := [104, 105, 100, 101]
theorem t_in : Str.ofString "in" = tx (w2 0) := by decide +kernel
theorem t_left : Str.ofString "left" = tx (w2 1) := by decide +kernel
theorem t_right : Str.ofString "right" = tx (w2 2) := by decide +kernel
theorem t_below : Str.ofString "below" = tx (w2 3) := by decide +kernel
theorem t_one : Str.ofString "one" = tx wOne := by decide +kernel
theorem t_not : Str.ofString "not" = tx wNot := by decide +kernel
theorem t_or : Str.ofString "or" = tx (wJ true) := by decide +kernel
theorem t_and : Str.ofString "and" = tx (wJ false) := by decide +kernel
theorem t_all : Str.ofString "all" = tx (wB true) := by decide +kernel
theorem t_some : Str.ofString "some" = tx (wB false) := by decide +kernel
theorem t_hide : Str.ofString "hide" = tx wHide := by decide +kernel
def Stm.d : Stm → D
  | .two w a b => D.tup [.str (w2 w), .str [a], .str [b]]
  | .one a => D.tup [.str wOne, .str [a]]
  | .neg s => D.tup [.str wNot, s.d]
  | .bin o s t => D.tup [.str (wJ o), s.d, t.d]
  | .bnd al a s => D.tup [.str (wB al), .str [a], s.d]
def Stm.dep : Stm → Nat
  | .two .. => 1
  | .one _ => 1
  | .neg s => s.dep + 1
  | .bin _ s t => max s.dep t.dep + 1
  | .bnd _ _ s => s.dep + 1
def Stm.parts : Stm → Nat
  | .two .. => 1
  | .one _ => 1
  | .neg s => s.parts + 1
  | .bin _ s t => s.parts + t.parts + 1
  | .bnd _ _ s => s.parts + 1
theorem Stm.dep_le : ∀ s : Stm, s.dep ≤ s.parts
  | .two .. => Nat.le_refl _
  | .one _ => Nat.le_refl _
  | .neg s => Nat.succ_le_succ (Stm.dep_le s)
  | .bin _ s t => by have := Stm.dep_le s; have := Stm.dep_le t; unfold Stm.dep Stm.parts; omega
  | .bnd _ _ s => Nat.succ_le_succ (Stm.dep_le s)
def Stm.word : Stm → List Nat
  | .two w _ _ => w2 w
  | .one _ => wOne
  | .neg _ => wNot
  | .bin o _ _ => wJ o
  | .bnd al _ _ => wB al
def Stm.plain : Stm → Bool
  | .two .. => true
  | .one _ => true
  | _ => false
section
variable {K : PySem.W.Frag} {H : Hp} {v : V}
theorem dp_str {l : List Nat} : Dp K H (.str l) v ↔ v = .str (tx l) := by unfold Dp; exact Iff.rfl
theorem dp_int {l : Int} : Dp K H (.int l) v ↔ v = .int l := by unfold Dp; exact Iff.rfl
theorem st_two {w : _root_.Fin 4} {a b : Nat} (h : Dp K H (Stm.two w a b).d v) : ∃ p, v = .ref p ∧ SqT K H p [.str (tx (w2 w)), .str (tx [a]), .str (tx [b])] := by
  obtain ⟨p, vs, e, hS, hd⟩ := Dp.tupE h
  cases hd with | cons h1 t => cases t with | cons h2 t => cases t with | cons h3 t => cases t; rw [dp_str.mp h1, dp_str.mp h2, dp_str.mp h3] at hS; exact ⟨p, e, hS⟩
theorem st_one {a : Nat} (h : Dp K H (Stm.one a).d v) : ∃ p, v = .ref p ∧ SqT K H p [.str (tx wOne), .str (tx [a])] := by
  obtain ⟨p, vs, e, hS, hd⟩ := Dp.tupE h
  cases hd with | cons h1 t => cases t with | cons h2 t => cases t; rw [dp_str.mp h1, dp_str.mp h2] at hS; exact ⟨p, e, hS⟩
theorem st_neg {s : Stm} (h : Dp K H (Stm.neg s).d v) : ∃ p x, v = .ref p ∧ SqT K H p [.str (tx wNot), x] ∧ Dp K H s.d x := by
  obtain ⟨p, vs, e, hS, hd⟩ := Dp.tupE h
  cases hd with | cons h1 t => cases t with | cons h2 t => cases t; rw [dp_str.mp h1] at hS; exact ⟨p, _, e, hS, h2⟩
theorem st_bin {o : Bool} {s t : Stm} (h : Dp K H (Stm.bin o s t).d v) : ∃ p x y, v = .ref p ∧ SqT K H p [.str (tx (wJ o)), x, y] ∧ Dp K H s.d x ∧ Dp K H t.d y := by
  obtain ⟨p, vs, e, hS, hd⟩ := Dp.tupE h
  cases hd with | cons h1 t => cases t with | cons h2 t => cases t with | cons h3 t => cases t; rw [dp_str.mp h1] at hS; exact ⟨p, _, _, e, hS, h2, h3⟩
theorem st_bnd {al : Bool} {a : Nat} {s : Stm} (h : Dp K H (Stm.bnd al a s).d v) : ∃ p x, v = .ref p ∧ SqT K H p [.str (tx (wB al)), .str (tx [a]), x] ∧ Dp K H s.d x := by
  obtain ⟨p, vs, e, hS, hd⟩ := Dp.tupE h
  cases hd with | cons h1 t => cases t with | cons h2 t => cases t with | cons h3 t => cases t; rw [dp_str.mp h1, dp_str.mp h2] at hS; exact ⟨p, _, e, hS, h3⟩
theorem mk_two {w : _root_.Fin 4} {a b : Nat} {p : Addr} (h : SqT K H p [.str (tx (w2 w)), .str (tx [a]), .str (tx [b])]) : Dp K H (Stm.two w a b).d (.ref p) := Dp.tupI h (.cons (dp_str.mpr rfl) (.cons (dp_str.mpr rfl) (.cons (dp_str.mpr rfl) .nil)))
theorem mk_one {a : Nat} {p : Addr} (h : SqT K H p [.str (tx wOne), .str (tx [a])]) : Dp K H (Stm.one a).d (.ref p) := Dp.tupI h (.cons (dp_str.mpr rfl) (.cons (dp_str.mpr rfl) .nil))
theorem mk_neg {s : Stm} {x : V} {p : Addr} (h : SqT K H p [.str (tx wNot), x]) (hx : Dp K H s.d x) : Dp K H (Stm.neg s).d (.ref p) := Dp.tupI h (.cons (dp_str.mpr rfl) (.cons hx .nil))
theorem mk_bin {o : Bool} {s t : Stm} {x y : V} {p : Addr} (h : SqT K H p [.str (tx (wJ o)), x, y]) (hx : Dp K H s.d x) (hy : Dp K H t.d y) : Dp K H (Stm.bin o s t).d (.ref p) := Dp.tupI h (.cons (dp_str.mpr rfl) (.cons hx (.cons hy .nil)))
theorem mk_bnd {al : Bool} {a : Nat} {s : Stm} {x : V} {p : Addr} (h : SqT K H p [.str (tx (wB al)), .str (tx [a]), x]) (hx : Dp K H s.d x) : Dp K H (Stm.bnd al a s).d (.ref p) := Dp.tupI h (.cons (dp_str.mpr rfl) (.cons (dp_str.mpr rfl) (.cons hx .nil)))
end
/-- the addresses and values of the module's constants -/
structure Gc (K : PySem.W.Frag) (mg : Str → Option Value) (aT aJ : Addr) : Prop where
  TWO_LETTERED : ∃ u, mg "TWO_LETTERED" = some u ∧ RelV (.ref aT) u
  JOINING : ∃ u, mg "JOINING" = some u ∧ RelV (.ref aJ) u
  two : ∀ H, SqT K H aT [.str (tx (w2 0)), .str (tx (w2 1)), .str (tx (w2 2)), .str (tx (w2 3))]
  jn : ∀ H, SqT K H aJ [.str (tx (wJ false)), .str (tx (wJ true))]
section
variable {P : Program} {w : World} {K : PySem.W.Frag} {mg : Str → Option Value} {base : Heap} {f : Addr} {fd : FuncData} {aT aJ : Addr}
theorem st_word {H : Hp} {v : V} : ∀ {s : Stm}, Dp K H s.d v → ∃ p xs, v = .ref p ∧ SqT K H p xs ∧ atI xs 0 = some (.str (tx s.word))
  | .two .., h => by obtain ⟨p, e, hS⟩ := st_two h; exact ⟨p, _, e, hS, rfl⟩
  | .one _, h => by obtain ⟨p, e, hS⟩ := st_one h; exact ⟨p, _, e, hS, rfl⟩
  | .neg _, h => by obtain ⟨p, x, e, hS, _⟩ := st_neg h; exact ⟨p, _, e, hS, rfl⟩
  | .bin .., h => by obtain ⟨p, x, y, e, hS, _⟩ := st_bin h; exact ⟨p, _, e, hS, rfl⟩
  | .bnd .., h => by obtain ⟨p, x, e, hS, _⟩ := st_bnd h; exact ⟨p, _, e, hS, rfl⟩
def words4 : List (List Nat) := [w2 0, w2 1, w2 2, w2 3]
theorem eqV_str (a b : List Nat) : eqV (.str (tx a)) (.str (tx b)) = decide (a = b) := by
  show decide (tx a = tx b) = _
  by_cases h : a = b
  · subst h; simp
  · rw [decide_eq_false h, decide_eq_false (fun e => h (tx_inj.mp e))]
theorem inV_str (a : List Nat) (ws : List (List Nat)) : inV (.str (tx a)) (ws.map fun b => V.str (tx b)) = decide (a ∈ ws) := by
  unfold inV
  rw [List.any_map]
  induction ws with
  | nil => simp
  | cons b r ih =>
    rw [List.any_cons, ih]
    show (eqV (.str (tx b)) (.str (tx a)) || decide (a ∈ r)) = _
    rw [eqV_str]
    by_cases h : b = a
    · subst h; simp
    · have h' : ¬ a = b := fun e => h e.symm
      simp [h, h']
theorem inV_words (a : List Nat) : inV (.str (tx a)) [.str (tx (w2 0)), .str (tx (w2 1)), .str (tx (w2 2)), .str (tx (w2 3))] = decide (a ∈ words4) := inV_str a words4
theorem plain_one : ∀ {s : Stm}, s.word = wOne → s.plain = true
  | .two w .., h => rfl
  | .one _, _ => rfl
  | .neg _, h => absurd (show wNot = wOne from h) (by decide)
  | .bin o .., h => absurd (show wJ o = wOne from h) (by cases o <;> decide)
  | .bnd o .., h => absurd (show wB o = wOne from h) (by cases o <;> decide)
theorem plain_two : ∀ {s : Stm}, s.word ≠ wOne → s.plain = decide (s.word ∈ words4)
  | .two w .., h => by show true = decide (w2 w ∈ words4); clear h; revert w; decide
  | .one _, h => absurd rfl h
  | .neg _, h => by show false = decide (wNot ∈ words4); decide
  | .bin o .., h => by show false = decide (wJ o ∈ words4); cases o <;> decide
  | .bnd o .., h => by show false = decide (wB o ∈ words4); cases o <;> decide
/-! ### is_small, is_plain -/
def small (a : Nat) : Bool := decide (97 ≤ a) && decide (a ≤ 122)
def spSmall : Sp := fun vs H Q _ => ∃ a : Nat, vs = [.str (tx [a])] ∧ Q (.bl (small a)) H
theorem t_a : Str.ofString "a" = tx [97] := by decide +kernel
theorem t_z : Str.ofString "z" = tx [122] := by decide +kernel
theorem ok_small (F : Fun K "is_small" "is_small" s_is_small f fd) : FnOk P w K mg base CX0 1 f fd p_is_small spSmall := by
  refine F.okQ sc_is_small (fun vs H Q E h => ?_) (fun cdv A outer s H vs Q E hr h => ?_)
  · obtain ⟨a, rfl, _⟩ := h; rfl
  obtain ⟨a, rfl, q⟩ := h
  refine ⟨_, (qb_one (qs_ret (q_chain o_le_one o_le_one q_str (qv 0) q_str))), ?_⟩
  simp only [tRevS, rSorted, tYes, tComp_def, cxOf, rLenQ, rLenS, rAddS, rLe1, rMax, rMin, rOrd, rInt1, tStrs, rIsi, if_true, if_false, Bool.false_eq_true, tTupF, tLstF, rAppendF, rPopF, rSetLF, rTupleOf, rListOf, rCatF, scal_ss, scal_ii, scal_bb, V_str_eq, V_int_eq, V_bl_eq, tML, tMS, tML0, rJoin, upd_same, upd_upd, HO.lst.injEq, exists_const, and_self, and_assoc, tSeq, tAsg, gName, tC, tVar, tOp, tUn, rI, rI0, rU, tTest, tB, tIfS, tRet, tRetN, tNext, tDrop, tCB, tCons, tNil, tTup, tLst, tCall, tBM, tBM0, tyV, rAppend, rPop, rEq, rNe, rIxL, rIxT, rIxS, tAnd, tOr, tNot, tAndV, tOrV, tNotV, tIf, tIsN, tNotN, tChain, tSl, tNoPart, tPart, rSlS, rInS, rCat, rCatT, gSub, rSetL, gTup, gCons, gNil, L2.start, List.map, List.length, List.replicate, List.getElem?_cons_zero, List.getElem?_cons_succ, List.set_cons_zero, List.set_cons_succ, List.cons_append, List.nil_append, List.append_nil, Option.some.injEq, exists_eq_left', V.ref.injEq, V.int.injEq, V.str.injEq, V.bl.injEq, V.ty.injEq, List.cons.injEq, and_true, true_and, exists_and_left, exists_eq_left, exists_eq', exists_eq_right, Nat.add_one_sub_one, Nat.sub_self, Nat.reduceAdd, Nat.reduceSub, t_a, t_z, tx_inj]
  unfold small at q
  refine ite2 (fun c => ?_) (fun c => ?_)
  · rw [c, Bool.true_and] at q; exact q
  · rw [Bool.eq_false_iff.mpr c, Bool.false_and] at q; exact q
def spPlain (K : PySem.W.Frag) : Sp := fun vs H Q _ => ∃ (v : V) (s : Stm), vs = [v] ∧ Dp K H s.d v ∧ Q (.bl s.plain) H
theorem ok_plain (F : Fun K "is_plain" "is_plain" s_is_plain f fd) (G : Gc K mg aT aJ) : FnOk P w K mg base CX0 1 f fd p_is_plain (spPlain K) := by
  refine F.okQ sc_is_plain (fun vs H Q E h => ?_) (fun cdv A outer s H vs Q E hr h => ?_)
  · obtain ⟨v, s, rfl, _⟩ := h; rfl
  obtain ⟨v, s, rfl, hd, q⟩ := h
  refine ⟨_, (qb_one (qs_ret (q_or (q_cmp o_eq (q_ix i_tup (qv 0) q_int) q_str) (q_one (q_cmp o_in_seq (q_ix i_tup (qv 0) q_int) (q_gc G.TWO_LETTERED)))))), ?_⟩
  simp only [tRevS, rSorted, tYes, tComp_def, cxOf, rLenQ, rLenS, rAddS, rLe1, rMax, rMin, rOrd, rInt1, tStrs, rIsi, if_true, if_false, Bool.false_eq_true, tTupF, tLstF, rAppendF, rPopF, rSetLF, rTupleOf, rListOf, rCatF, scal_ss, scal_ii, scal_bb, V_str_eq, V_int_eq, V_bl_eq, tML, tMS, tML0, rJoin, upd_same, upd_upd, HO.lst.injEq, exists_const, and_self, and_assoc, tSeq, tAsg, gName, tC, tVar, tOp, tUn, rI, rI0, rU, tTest, tB, tIfS, tRet, tRetN, tNext, tDrop, tCB, tCons, tNil, tTup, tLst, tCall, tBM, tBM0, tyV, rAppend, rPop, rEq, rNe, rIxL, rIxT, rIxS, tAnd, tOr, tNot, tAndV, tOrV, tNotV, tIf, tIsN, tNotN, tChain, tSl, tNoPart, tPart, rSlS, rInS, rCat, rCatT, gSub, rSetL, gTup, gCons, gNil, L2.start, List.map, List.length, List.replicate, List.getElem?_cons_zero, List.getElem?_cons_succ, List.set_cons_zero, List.set_cons_succ, List.cons_append, List.nil_append, List.append_nil, Option.some.injEq, exists_eq_left', V.ref.injEq, V.int.injEq, V.str.injEq, V.bl.injEq, V.ty.injEq, List.cons.injEq, and_true, true_and, exists_and_left, exists_eq_left, exists_eq', exists_eq_right, Nat.add_one_sub_one, Nat.sub_self, Nat.reduceAdd, Nat.reduceSub, t_one, tx_inj]
  obtain ⟨p, xs, rfl, hS, h0⟩ := st_word hd
  refine ⟨p, rfl, _, hS, _, h0, rfl, ?_⟩
  rw [V_str_eq]
  refine ite2 (fun c => ?_) (fun c => ?_)
  · rw [plain_one (of_decide_eq_true c)] at q; exact q
  · refine ⟨p, rfl, _, hS, _, h0, aT, _, rfl, .inr (G.two H), rfl, rfl, ?_⟩
    rw [if_neg Bool.false_ne_true, inV_words, ← plain_two (fun z => c (decide_eq_true z))]
    exact q
end
end P
set_option Elab.async false
set_option linter.all false
set_option maxRecDepth 100000
set_option maxHeartbeats 4000000
namespace P
open PySem L2
open PyProof.Rows (boot_int boot_str boot_bool boot_list boot_tuple boot_isinstance boot_max boot_min)
section
variable {P : Program} {w : World} {K : PySem.W.Frag} {mg : Str → Option Value} {base : Heap} {f g : Addr} {fd gd : FuncData} {aT aJ : Addr}
/-! ### _law_built: a statement of at most thirty parts -/
def total (ss : List Stm) : Nat := (ss.map Stm.parts).sum
def spBuilt (K : PySem.W.Frag) : Sp := fun vs H Q _ => ∃ (a : Addr) (ds : List Int) (n : Int) (pl : List Nat), vs = [.ref a, .int n, .str (tx pl)] ∧ H a = some (.lst (ds.map V.int)) ∧ ds.length = 90 ∧ (∀ d ∈ ds, 0 ≤ d) ∧ 1 ≤ n ∧ n ≤ 30 ∧ pl.length ≠ 0 ∧ pl.length ≤ 52 ∧
  ∀ (v : V) (s : Stm) (H' : Hp), s.parts ≤ 30 → Same H H' → Dp K H' s.d v → Q v H'
def wordsV : List V := [.str (tx (w2 0)), .str (tx wOne), .str (tx (w2 1)), .str (tx (w2 2)), .str (tx (w2 3)), .str (tx wNot), .str (tx (wB false)), .str (tx (wB true)), .str (tx (wJ false)), .str (tx (wJ true))]
theorem w_join {k : Int} (h : 8 ≤ k) (h' : k < 10) : ∃ o, atI wordsV k = some (.str (tx (wJ o))) := by
  rcases (show k = 8 ∨ k = 9 by omega) with rfl | rfl
  · exact ⟨false, rfl⟩
  · exact ⟨true, rfl⟩
theorem w_bnd {k : Int} (h : k = 6 ∨ k = 7) : ∃ al, atI wordsV k = some (.str (tx (wB al))) := by
  rcases h with rfl | rfl
  · exact ⟨false, rfl⟩
  · exact ⟨true, rfl⟩
theorem w_two {k : Int} (h : 0 ≤ k) (h' : k < 5) (h1 : k ≠ 1) : ∃ w, atI wordsV k = some (.str (tx (w2 w))) := by
  rcases (show k = 0 ∨ k = 2 ∨ k = 3 ∨ k = 4 by omega) with rfl | rfl | rfl | rfl
  · exact ⟨0, rfl⟩
  · exact ⟨1, rfl⟩
  · exact ⟨2, rfl⟩
  · exact ⟨3, rfl⟩
structure BSt (K : PySem.W.Frag) (H : Hp) (l aw : Addr) (Hc : Hp) (xs : List V) (ss : List Stm) : Prop where
  hl : Hc l = some (.lst xs)
  dp : Dps K Hc (ss.map Stm.d) xs
  same : Same H Hc
  ws : Hc aw = some (.lst wordsV)
theorem BSt.len {H : Hp} {l aw : Addr} {Hc : Hp} {xs : List V} {ss : List Stm} (b : BSt K H l aw Hc xs ss) : xs.length = ss.length := by have := b.dp.length; rw [List.length_map] at this; exact this.symm
theorem BSt.tup {H : Hp} {l aw p : Addr} {Hc : Hp} {xs vs : List V} {ss : List Stm} (b : BSt K H l aw Hc xs ss) (hp : Hc p = none) : BSt K H l aw (upd Hc p (.tup vs)) xs ss := by
  have e := same_new hp (.tup vs)
  exact ⟨e _ _ b.hl, b.dp.mono (SqT.same e), b.same.trans e, e _ _ b.ws⟩
theorem BSt.grow {H : Hp} {l aw : Addr} {Hc : Hp} {xs : List V} {ss : List Stm} (b : BSt K H l aw Hc xs ss) (hn : H l = none) (hne : aw ≠ l) {H1 H2 H3 : Hp} {p : Addr} {vs xs0 ys : List V} {ss0 : List Stm} {s : Stm}
    (e1 : But l Hc H1) (h1 : H1 l = some (.lst ys)) (hp : H1 p = none) (e2 : H2 = upd H1 p (.tup vs)) (e3 : H3 = upd H2 l (.lst (xs0 ++ [.ref p]))) (h0 : Dps K Hc (ss0.map Stm.d) xs0)
    (hs : ∀ H', Ext K Hc H' → SqT K H' p vs → Dp K H' s.d (.ref p)) : BSt K H l aw H3 (xs0 ++ [.ref p]) (ss0 ++ [s]) := by
  subst e2; subst e3
  have pl : p ≠ l := fun e => by subst e; rw [hp] at h1; cases h1
  have bt : But l Hc (upd (upd H1 p (.tup vs)) l (.lst (xs0 ++ [.ref p]))) := e1.trans ((same_new hp _).but.trans but_upd)
  have ex : Ext K Hc (upd (upd H1 p (.tup vs)) l (.lst (xs0 ++ [.ref p]))) := SqT.but bt b.hl
  refine ⟨upd_same, ?_, fun c o hc => bt c o (fun z => by subst z; rw [hn] at hc; cases hc) (b.same c o hc), bt _ _ hne b.ws⟩
  rw [List.map_append]
  exact Paired.snoc (h0.mono ex) (hs _ ex (SqT.of (by rw [upd_ne pl, upd_same])))
theorem snoc_split {K : PySem.W.Frag} {H : Hp} {ss : List Stm} {xs : List V} (h : Dps K H (ss.map Stm.d) xs) (hn : ss ≠ []) : ∃ ss0 s xs0 x, ss = ss0 ++ [s] ∧ xs = xs0 ++ [x] ∧ Dps K H (ss0.map Stm.d) xs0 ∧ Dp K H s.d x := by
  obtain ⟨ss0, s, rfl⟩ : ∃ ss0 s, ss = ss0 ++ [s] := ⟨ss.dropLast, ss.getLast hn, (List.dropLast_concat_getLast hn).symm⟩
  rw [List.map_append] at h
  have : ∀ {ds : List D} {d : D} {xs : List V}, Dps K H (ds ++ [d]) xs → ∃ xs0 x, xs = xs0 ++ [x] ∧ Dps K H ds xs0 ∧ Dp K H d x := by
    intro ds
    induction ds with
    | nil => intro d xs h; cases h with | cons a t => cases t; exact ⟨[], _, rfl, .nil, a⟩
    | cons e r ih =>
      intro d xs h
      cases h with
      | cons a t =>
        obtain ⟨xs0, x, rfl, h1, h2⟩ := ih t
        exact ⟨_ :: xs0, x, rfl, .cons a h1, h2⟩
  obtain ⟨xs0, x, e, h1, h2⟩ := this h
  exact ⟨ss0, s, xs0, x, rfl, e, h1, h2⟩
theorem in567 (k : Int) : inV (.int k) [.int 5, .int 6, .int 7] = (decide (k = 5) || decide (k = 6) || decide (k = 7)) := by
  show ((5 == k) || ((6 == k) || ((7 == k) || false))) = _
  have e : ∀ a : Int, (a == k) = decide (k = a) := fun a => by
    by_cases h : k = a
    · subst h; simp
    · rw [decide_eq_false h]; exact beq_eq_false_iff_ne.mpr fun z => h z.symm
  rw [e, e, e, Bool.or_false, Bool.or_assoc]
theorem total_snoc (ss : List Stm) (s : Stm) : total (ss ++ [s]) = total ss + s.parts := by unfold total; rw [List.map_append, List.sum_append]; simp
theorem atI_end {xs : List V} {x : V} : atI (xs ++ [x]) (-1) = some x := atI_last xs x
theorem ixN_end {xs : List V} {x : V} : ixN (xs ++ [x]).length (-1) = some xs.length := by
  unfold ixN
  rw [if_neg (by decide), if_pos (by simp; omega)]
  simp
  omega
theorem set_end {xs : List V} {x y : V} : (xs ++ [x]).set xs.length y = xs ++ [y] := by
  rw [List.set_append_right _ _ (Nat.le_refl _)]; simp
theorem two_tests {c1 : Bool} {S A : List V → Prop} {E : Prop} {xs : List V} (hS : S xs) (h : c1 = true → decide (1 < (xs.length : Int)) = false) (e : E) : if c1 = true then ∃ x, S x ∧ (if decide (1 < (x.length : Int)) = true then A x else E) else E := by
  cases c1 with
  | true => exact if_tt rfl ⟨xs, hS, if_ff (h rfl) e⟩
  | false => exact if_ff rfl e
theorem two_testsT {c1 : Bool} {S A : List V → Prop} {E : Prop} {xs : List V} (hS : S xs) (h : c1 = true → decide (0 < (xs.length : Int)) = false) (e : E) : if c1 = true then ∃ x, S x ∧ (if decide (0 < (x.length : Int)) = true then A x else E) else E := by
  cases c1 with
  | true => exact if_tt rfl ⟨xs, hS, if_ff (h rfl) e⟩
  | false => exact if_ff rfl e
theorem ok_built (F : Fun K "_law_built" "_law_built" s__law_built f fd) (B : Bl mg) : FnOk P w K mg base CX0 1 f fd p__law_built (spBuilt K) := by
  refine F.okQ sc__law_built (fun vs H Q E h => ?_) (fun cdv A outer s H vs Q E hr h => ?_)
  · obtain ⟨a, ds, n, pl, rfl, _⟩ := h; rfl
  obtain ⟨a, ds, n, pl, rfl, ha, hlen, hnn, h1, h2, hp0, hp1, q⟩ := h
  refine ⟨_, (qb_cons (qs_set (i := 3) sc__law_built.nd rfl (Or.inl rfl) (q_lst (qa_strs (.cons (.cons (.cons (.cons (.cons (.cons (.cons (.cons (.cons (.cons .nil))))))))))))) (qb_cons (qs_set (i := 4) sc__law_built.nd rfl (Or.inl rfl) (q_lst qa_nil)) (qb_cons (qs_set (i := 5) sc__law_built.nd rfl (Or.inl rfl) q_int) (qb_cons (qs_for PassesOwn.never rfl (qi_range1 B.range (qa_cons (qv 1) qa_nil)) (qg_name (i := 6) sc__law_built.nd rfl (Or.inl rfl)) (qb_cons (qs_set (i := 7) sc__law_built.nd rfl (Or.inl rfl) (q_op o_mod (q_ix i_list (qv 0) (q_op o_mul q_int (qv 6))) q_int)) (qb_cons (qs_set (i := 8) sc__law_built.nd rfl (Or.inl rfl) (q_ix i_str (qv 2) (q_op o_mod (q_ix i_list (qv 0) (q_op o_add (q_op o_mul q_int (qv 6)) q_int)) (q_callB c_len_str B.len PySem.boot_len (qa_cons (qv 2) qa_nil))))) (qb_cons (qs_set (i := 9) sc__law_built.nd rfl (Or.inl rfl) (q_ix i_str (qv 2) (q_op o_mod (q_ix i_list (qv 0) (q_op o_add (q_op o_mul q_int (qv 6)) q_int)) (q_callB c_len_str B.len PySem.boot_len (qa_cons (qv 2) qa_nil))))) (qb_one (qs_if (qt_w (qw_and (qt_cmp o_ge (qv 7) q_int) (qw_and1 (qt_cmp o_gt (q_callB c_len_seq B.len PySem.boot_len (qa_cons (qv 4) qa_nil)) q_int)))) (qb_cons (qs_set (i := 10) sc__law_built.nd rfl (Or.inl rfl) (q_ml0 PySem.F.slot_list_pop PySem.F.type_list_pop m_pop (qv 4))) (qb_cons (qs_asg (q_tup (qa_cons (q_ix i_list (qv 3) (qv 7)) (qa_cons (q_ix i_list (qv 4) (q_un u_neg q_int)) (qa_cons (qv 10) qa_nil)))) (qg_sub (qv 4) (q_un u_neg q_int) s_list)) (qb_one (qs_set (i := 5) sc__law_built.nd rfl (Or.inl rfl) (q_op o_add (qv 5) q_int))))) (qb_one (qs_if (qt_w (qw_and (qt_cmp o_in_seq (qv 7) (q_tup (qa_cons q_int (qa_cons q_int (qa_cons q_int qa_nil))))) (qw_and1 (qt_cmp o_gt (q_callB c_len_seq B.len PySem.boot_len (qa_cons (qv 4) qa_nil)) q_int)))) (qb_one (qs_if (qt_cmp o_le (q_op o_add (qv 5) (q_callB c_len_seq B.len PySem.boot_len (qa_cons (qv 4) qa_nil))) q_int) (qb_cons (qs_set (i := 11) sc__law_built.nd rfl (Or.inl rfl) (q_ml0 PySem.F.slot_list_pop PySem.F.type_list_pop m_pop (qv 4))) (qb_cons (qs_if (qt_cmp o_eq (qv 7) q_int) (qb_one (qs_expr (q_ml PySem.F.slot_list_append PySem.F.type_list_append m_append (qv 4) (qa_cons (q_tup (qa_cons q_str (qa_cons (qv 11) qa_nil))) qa_nil)))) (qb_one (qs_expr (q_ml PySem.F.slot_list_append PySem.F.type_list_append m_append (qv 4) (qa_cons (q_tup (qa_cons (q_ix i_list (qv 3) (qv 7)) (qa_cons (qv 8) (qa_cons (qv 11) qa_nil)))) qa_nil))))) (qb_one (qs_set (i := 5) sc__law_built.nd rfl (Or.inl rfl) (q_op o_add (qv 5) q_int))))) qb_nil)) (qb_one (qs_if (qt_cmp o_le (q_op o_add (q_op o_add (qv 5) (q_callB c_len_seq B.len PySem.boot_len (qa_cons (qv 4) qa_nil))) q_int) q_int) (qb_cons (qs_if (qt_cmp o_eq (q_op o_mod (qv 7) q_int) q_int) (qb_one (qs_expr (q_ml PySem.F.slot_list_append PySem.F.type_list_append m_append (qv 4) (qa_cons (q_tup (qa_cons q_str (qa_cons (qv 8) qa_nil))) qa_nil)))) (qb_one (qs_expr (q_ml PySem.F.slot_list_append PySem.F.type_list_append m_append (qv 4) (qa_cons (q_tup (qa_cons (q_ix i_list (qv 3) (q_op o_mod (qv 7) q_int)) (qa_cons (qv 8) (qa_cons (qv 9) qa_nil)))) qa_nil))))) (qb_one (qs_set (i := 5) sc__law_built.nd rfl (Or.inl rfl) (q_op o_add (qv 5) q_int)))) qb_nil)))))))))) (qb_cons (qs_while PassesOwn.never (qt_cmp o_gt (q_callB c_len_seq B.len PySem.boot_len (qa_cons (qv 4) qa_nil)) q_int) (qb_cons (qs_set (i := 10) sc__law_built.nd rfl (Or.inl rfl) (q_ml0 PySem.F.slot_list_pop PySem.F.type_list_pop m_pop (qv 4))) (qb_one (qs_asg (q_tup (qa_cons (q_ix i_list (qv 3) (q_op o_add q_int (q_op o_mod (q_callB c_len_seq B.len PySem.boot_len (qa_cons (qv 4) qa_nil)) q_int))) (qa_cons (q_ix i_list (qv 4) (q_un u_neg q_int)) (qa_cons (qv 10) qa_nil)))) (qg_sub (qv 4) (q_un u_neg q_int) s_list))))) (qb_one (qs_ret (q_ix i_list (qv 4) q_int)))))))), ?_⟩
  simp only [tRevS, rSorted, tYes, tComp_def, cxOf, rLenQ, rLenS, rAddS, rLe1, rMax, rMin, rOrd, rInt1, tStrs, rIsi, if_true, if_false, Bool.false_eq_true, tTupF, tLstF, rAppendF, rPopF, rSetLF, rTupleOf, rListOf, rCatF, scal_ss, scal_ii, scal_bb, V_str_eq, V_int_eq, V_bl_eq, tML, tMS, tML0, rJoin, upd_same, upd_upd, HO.lst.injEq, exists_const, and_self, and_assoc, tSeq, tAsg, gName, tC, tVar, tOp, tUn, rI, rI0, rU, tTest, tB, tIfS, tRet, tRetN, tNext, tDrop, tCB, tCons, tNil, tTup, tLst, tCall, tBM, tBM0, tyV, rAppend, rPop, rEq, rNe, rIxL, rIxT, rIxS, tAnd, tOr, tNot, tAndV, tOrV, tNotV, tIf, tIsN, tNotN, tChain, tSl, tNoPart, tPart, rSlS, rInS, rCat, rCatT, gSub, rSetL, gTup, gCons, gNil, L2.start, List.map, List.length, List.replicate, List.getElem?_cons_zero, List.getElem?_cons_succ, List.set_cons_zero, List.set_cons_succ, List.cons_append, List.nil_append, List.append_nil, Option.some.injEq, exists_eq_left', V.ref.injEq, V.int.injEq, V.str.injEq, V.bl.injEq, V.ty.injEq, List.cons.injEq, and_true, true_and, exists_and_left, exists_eq_left, exists_eq', exists_eq_right, Nat.add_one_sub_one, Nat.sub_self, Nat.reduceAdd, Nat.reduceSub, t_in, t_one, t_left, t_right, t_below, t_not, t_some, t_all, t_and, t_or]
  refine ⟨le_line (by omega), fun aw H1 hw e1 => ⟨le_line (by omega), fun l H2 hl e2 => ?_⟩⟩
  have hwl : aw ≠ l := fun z => by subst z; rw [e1, upd_same] at hl; cases hl
  have hHl : H l = none := (by have := hl; rw [e1, upd_ne (Ne.symm hwl)] at this; exact this)
  have s1 : Same H H1 := by rw [e1]; exact same_new hw _
  have s2 : Same H1 H2 := by rw [e2]; exact same_new hl _
  have b0 : BSt K H l aw H2 [] [] := ⟨by rw [e2, upd_same], .nil, s1.trans s2, s2 _ _ (by rw [e1, upd_same]; rfl)⟩
  refine ⟨_, rfl, n, rfl, by omega, by omega, for_range (fun i σ Hc => ∃ (ss : List Stm) (xs : List V) (o6 o7 o8 o9 o10 o11 : Option V), σ = [some (.ref a), some (.int n), some (.str (tx pl)), some (.ref aw), some (.ref l), some (.int (total ss)), o6, o7, o8, o9, o10, o11] ∧ BSt K H l aw Hc xs ss ∧ total ss + ss.length ≤ 31 ∧ (0 < i → ss ≠ []))
    ⟨[], [], none, none, none, none, none, none, rfl, b0, by decide, fun h => absurd h (by decide)⟩ ?_ ?_⟩
  · rintro i σ Hc hi ⟨ss, xs, o6, o7, o8, o9, o10, o11, rfl, b, ht, hne⟩
    simp only [tRevS, rSorted, tYes, tComp_def, cxOf, rLenQ, rLenS, rAddS, rLe1, rMax, rMin, rOrd, rInt1, tStrs, rIsi, if_true, if_false, Bool.false_eq_true, tTupF, tLstF, rAppendF, rPopF, rSetLF, rTupleOf, rListOf, rCatF, scal_ss, scal_ii, scal_bb, V_str_eq, V_int_eq, V_bl_eq, tML, tMS, tML0, rJoin, upd_same, upd_upd, HO.lst.injEq, exists_const, and_self, and_assoc, tSeq, tAsg, gName, tC, tVar, tOp, tUn, rI, rI0, rU, tTest, tB, tIfS, tRet, tRetN, tNext, tDrop, tCB, tCons, tNil, tTup, tLst, tCall, tBM, tBM0, tyV, rAppend, rPop, rEq, rNe, rIxL, rIxT, rIxS, tAnd, tOr, tNot, tAndV, tOrV, tNotV, tIf, tIsN, tNotN, tChain, tSl, tNoPart, tPart, rSlS, rInS, rCat, rCatT, gSub, rSetL, gTup, gCons, gNil, L2.start, List.map, List.length, List.replicate, List.getElem?_cons_zero, List.getElem?_cons_succ, List.set_cons_zero, List.set_cons_succ, List.cons_append, List.nil_append, List.append_nil, Option.some.injEq, exists_eq_left', V.ref.injEq, V.int.injEq, V.str.injEq, V.bl.injEq, V.ty.injEq, List.cons.injEq, and_true, true_and, exists_and_left, exists_eq_left, exists_eq', exists_eq_right, Nat.add_one_sub_one, Nat.sub_self, Nat.reduceAdd, Nat.reduceSub, tx_len, tx_cps, tx_one]
    have hA : SqL K Hc a (ds.map V.int) := .of (b.same _ _ ha)
    have at3 : ∀ k : Int, 0 ≤ k → k < 90 → ∃ d, atI (ds.map V.int) k = some (.int d) := fun k k0 k1 => by
      obtain ⟨m, rfl⟩ : ∃ m : Nat, k = (m : Int) := ⟨k.toNat, by omega⟩
      have hk : m < ds.length := by omega
      exact ⟨ds[m], atI_nat (by rw [List.getElem?_map, List.getElem?_eq_getElem hk]; rfl)⟩
    obtain ⟨d0, hd0⟩ := at3 (3 * (0 + (i : Int))) (by omega) (by omega)
    obtain ⟨d1, hd1⟩ := at3 (3 * (0 + (i : Int)) + 1) (by omega) (by omega)
    obtain ⟨d2, hd2⟩ := at3 (3 * (0 + (i : Int)) + 2) (by omega) (by omega)
    obtain ⟨c1, hc1⟩ := atI_tx (k := d1) hp0
    obtain ⟨c2, hc2⟩ := atI_tx (k := d2) hp0
    have cm : CMul 3 (0 + (i : Int)) := cmul_l (by decide) (by decide)
    have lp : pl.length ≤ sizeLine := le_line (by omega)
    refine ⟨cm, _, hA, _, hd0, d0, rfl, by decide, cm, _, hA, _, hd1, lp, d1, rfl, by omega, lp, c1, hc1, cm, _, hA, _, hd2, lp, d2, rfl, by omega, lp, c2, hc2, ?_⟩
    have k0 : 0 ≤ d0 % 10 := Int.emod_nonneg _ (by decide)
    have k1 : d0 % 10 < 10 := Int.emod_lt_of_pos _ (by decide)
    generalize d0 % 10 = k at k0 k1
    have hlen2 := b.len
    by_cases hA1 : 8 ≤ k ∧ 1 < xs.length
    · refine if_tt (decide_eq_true hA1.1) ⟨_, .inl (.of b.hl), if_tt (decide_eq_true (by omega)) ⟨⟨_, b.hl⟩, ?_⟩⟩
      obtain ⟨ssa, sy, xsa, y, rfl, rfl, da, dy⟩ := snoc_split b.dp (by intro z; rw [z] at hlen2; have := hA1.2; rw [hlen2] at this; exact absurd this (by decide))
      obtain ⟨ssb, sx, xsb, x, rfl, rfl, db, dx⟩ := snoc_split da (by intro z; rw [z] at hlen2; have := hA1.2; rw [hlen2] at this; exact absurd this (by simp))
      obtain ⟨o, ho⟩ := w_join hA1.1 k1
      refine ⟨_, _, b.hl, fun H2' e2' => ?_⟩
      have bt : But l Hc H2' := by rw [e2']; exact but_upd
      refine ⟨_, .of (bt _ _ hwl b.ws), _, ho, _, .of (by rw [e2']; exact upd_same), _, atI_end, le_line (by omega), fun p H3 hp e3 => ?_⟩
      have pl' : p ≠ l := fun z => by subst z; rw [e2', upd_same] at hp; cases hp
      refine ⟨_, by rw [e3, upd_ne (Ne.symm pl'), e2', upd_same], _, ixN_end, fun H4 e4 => ?_⟩
      rw [set_end] at e4
      have b4 := b.grow hHl hwl (s := Stm.bin o sx sy) (ss0 := ssb) (xs0 := xsb) bt (by rw [e2']; exact upd_same) hp e3 e4 db fun H' ex hS => mk_bin hS (dx.mono ex) (dy.mono ex)
      exact ⟨_, by rw [total_snoc, total_snoc, total_snoc]; simp [Stm.parts]; omega, _, b4, by rw [total_snoc, total_snoc] at ht; rw [total_snoc]; simp [Stm.parts] at ht ⊢; omega, fun _ => by simp⟩
    · refine two_tests (xs := xs) (.inl (.of b.hl)) (fun c => decide_eq_false fun z => hA1 ⟨of_decide_eq_true c, by omega⟩) ⟨le_line (by omega), fun p5 H5 hp5 e5 => ?_⟩
      have b5 : BSt K H l aw H5 xs ss := by rw [e5]; exact b.tup hp5
      refine ⟨p5, _, rfl, .inr (by rw [e5]; exact SqT.new), rfl, rfl, _, rfl, ?_⟩
      rw [if_neg Bool.false_ne_true, in567]
      by_cases hB : (k = 5 ∨ k = 6 ∨ k = 7) ∧ 0 < xs.length
      · refine if_tt (by rcases hB.1 with rfl | rfl | rfl <;> decide) ⟨_, .inl (.of b5.hl), if_tt (decide_eq_true (by omega)) ⟨_, .inl (.of b5.hl), ?_⟩⟩
        have hss : ss ≠ [] := by intro z; rw [z] at hlen2; have := hB.2; rw [hlen2] at this; exact absurd this (by decide)
        refine ite2 (fun c => ?_) (fun c => ?_)
        · have c : (total ss : Int) + xs.length ≤ 30 := by simpa using c
          obtain ⟨ssa, sy, xsa, y, rfl, rfl, da, dy⟩ := snoc_split b5.dp hss
          refine ⟨⟨_, b5.hl⟩, _, _, b5.hl, fun H6 e6 => ?_⟩
          have bt : But l H5 H6 := by rw [e6]; exact but_upd
          have h6l : H6 l = some (.lst xsa) := by rw [e6]; exact upd_same
          refine ite2 (fun c5 => ?_) (fun c5 => ?_)
          · refine ⟨⟨_, h6l⟩, le_line (by omega), fun p7 H7 hp7 e7 => ?_⟩
            have pl7 : p7 ≠ l := fun z => by subst z; rw [h6l] at hp7; cases hp7
            refine ⟨_, by rw [e7, upd_ne (Ne.symm pl7)]; exact h6l, lt_line (by simp at hlen2 ht; omega), fun H8 e8 => ?_⟩
            have b8 := b5.grow hHl hwl (s := Stm.neg sy) (ss0 := ssa) (xs0 := xsa) bt h6l hp7 e7 e8 da fun H' ex hS => mk_neg hS (dy.mono ex)
            exact ⟨_, by simp [total_snoc, Stm.parts]; omega, _, b8, by simp [total_snoc, Stm.parts] at ht c hlen2 ⊢; omega, fun _ => by simp⟩
          · have c5 : k ≠ 5 := by simpa using c5
            obtain ⟨al, hal⟩ := w_bnd (k := k) (by rcases hB.1 with z | z | z; exact absurd z c5; exact .inl z; exact .inr z)
            refine ⟨⟨_, h6l⟩, _, .of (bt _ _ hwl b5.ws), _, hal, le_line (by omega), fun p7 H7 hp7 e7 => ?_⟩
            have pl7 : p7 ≠ l := fun z => by subst z; rw [h6l] at hp7; cases hp7
            refine ⟨_, by rw [e7, upd_ne (Ne.symm pl7)]; exact h6l, lt_line (by simp at hlen2 ht; omega), fun H8 e8 => ?_⟩
            have b8 := b5.grow hHl hwl (s := Stm.bnd al c1 sy) (ss0 := ssa) (xs0 := xsa) bt h6l hp7 e7 e8 da fun H' ex hS => mk_bnd hS (dy.mono ex)
            exact ⟨_, by simp [total_snoc, Stm.parts]; omega, _, b8, by simp [total_snoc, Stm.parts] at ht c hlen2 ⊢; omega, fun _ => by simp⟩
        · exact ⟨_, rfl, _, b5, ht, fun _ => hss⟩
      · refine two_testsT (xs := xs) (.inl (.of b5.hl)) (fun c => decide_eq_false fun z => hB ⟨?_, by omega⟩) ⟨_, .inl (.of b5.hl), ?_⟩
        · simp at c; omega
        refine ite2 (fun c => ?_) (fun c => ?_)
        · have c : (total ss : Int) + xs.length + 1 ≤ 30 := by simpa using c
          have q0 : 0 ≤ k % 5 := Int.emod_nonneg _ (by decide)
          have q1 : k % 5 < 5 := Int.emod_lt_of_pos _ (by decide)
          refine ⟨by decide, ite2 (fun c5 => ?_) (fun c5 => ?_)⟩
          · refine ⟨⟨_, b5.hl⟩, le_line (by omega), fun p7 H7 hp7 e7 => ?_⟩
            have pl7 : p7 ≠ l := fun z => by subst z; rw [b5.hl] at hp7; cases hp7
            refine ⟨_, by rw [e7, upd_ne (Ne.symm pl7)]; exact b5.hl, lt_line (by omega), fun H8 e8 => ?_⟩
            have b8 := b5.grow hHl hwl (s := Stm.one c1) (ss0 := ss) (xs0 := xs) (But.refl _) b5.hl hp7 e7 e8 b5.dp fun H' ex hS => mk_one hS
            exact ⟨_, by simp [total_snoc, Stm.parts], _, b8, by simp [total_snoc, Stm.parts] at c ⊢; omega, fun _ => by simp⟩
          · have c5 : k % 5 ≠ 1 := by simpa using c5
            obtain ⟨w, hw2⟩ := w_two q0 q1 c5
            refine ⟨⟨_, b5.hl⟩, by decide, _, .of b5.ws, _, hw2, le_line (by omega), fun p7 H7 hp7 e7 => ?_⟩
            have pl7 : p7 ≠ l := fun z => by subst z; rw [b5.hl] at hp7; cases hp7
            refine ⟨_, by rw [e7, upd_ne (Ne.symm pl7)]; exact b5.hl, lt_line (by omega), fun H8 e8 => ?_⟩
            have b8 := b5.grow hHl hwl (s := Stm.two w c1 c2) (ss0 := ss) (xs0 := xs) (But.refl _) b5.hl hp7 e7 e8 b5.dp fun H' ex hS => mk_two hS
            exact ⟨_, by simp [total_snoc, Stm.parts], _, b8, by simp [total_snoc, Stm.parts] at c ⊢; omega, fun _ => by simp⟩
        · have c : ¬ (total ss : Int) + xs.length + 1 ≤ 30 := by simpa using c
          exact ⟨_, rfl, _, b5, ht, fun _ z => c (by subst z; rw [hlen2]; decide)⟩
  · rintro σ Hc ⟨ss, xs, o6, o7, o8, o9, o10, o11, rfl, b, ht, hne⟩
    have hss : ss ≠ [] := hne (by omega)
    refine while_by (fun σ Hc => ∃ (ss : List Stm) (xs : List V) (o6 o7 o8 o9 o10 o11 : Option V) (m : Int), σ = [some (.ref a), some (.int n), some (.str (tx pl)), some (.ref aw), some (.ref l), some (.int m), o6, o7, o8, o9, o10, o11] ∧ BSt K H l aw Hc xs ss ∧ total ss + ss.length ≤ 31 ∧ ss ≠ [])
      (fun _ Hc => match Hc l with | some (.lst xs) => xs.length | _ => 0) ⟨ss, xs, o6, o7, o8, o9, o10, o11, _, rfl, b, ht, hss⟩ ?_ ?_
    · rintro σ Hc ⟨ss, xs, o6, o7, o8, o9, o10, o11, m, rfl, b, ht, hne⟩
      simp only [tRevS, rSorted, tYes, tComp_def, cxOf, rLenQ, rLenS, rAddS, rLe1, rMax, rMin, rOrd, rInt1, tStrs, rIsi, if_true, if_false, Bool.false_eq_true, tTupF, tLstF, rAppendF, rPopF, rSetLF, rTupleOf, rListOf, rCatF, scal_ss, scal_ii, scal_bb, V_str_eq, V_int_eq, V_bl_eq, tML, tMS, tML0, rJoin, upd_same, upd_upd, HO.lst.injEq, exists_const, and_self, and_assoc, tSeq, tAsg, gName, tC, tVar, tOp, tUn, rI, rI0, rU, tTest, tB, tIfS, tRet, tRetN, tNext, tDrop, tCB, tCons, tNil, tTup, tLst, tCall, tBM, tBM0, tyV, rAppend, rPop, rEq, rNe, rIxL, rIxT, rIxS, tAnd, tOr, tNot, tAndV, tOrV, tNotV, tIf, tIsN, tNotN, tChain, tSl, tNoPart, tPart, rSlS, rInS, rCat, rCatT, gSub, rSetL, gTup, gCons, gNil, L2.start, List.map, List.length, List.replicate, List.getElem?_cons_zero, List.getElem?_cons_succ, List.set_cons_zero, List.set_cons_succ, List.cons_append, List.nil_append, List.append_nil, Option.some.injEq, exists_eq_left', V.ref.injEq, V.int.injEq, V.str.injEq, V.bl.injEq, V.ty.injEq, List.cons.injEq, and_true, true_and, exists_and_left, exists_eq_left, exists_eq', exists_eq_right, Nat.add_one_sub_one, Nat.sub_self, Nat.reduceAdd, Nat.reduceSub]
      have hlen2 := b.len
      refine ⟨_, .inl (.of b.hl), ite2 (fun c => ?_) (fun c => ?_)⟩
      · have c : 1 < xs.length := by simp at c; omega
        obtain ⟨ssa, sy, xsa, y, rfl, rfl, da, dy⟩ := snoc_split b.dp hne
        obtain ⟨ssb, sx, xsb, x, rfl, rfl, db, dx⟩ := snoc_split da (by intro z; rw [z] at hlen2; rw [hlen2] at c; exact absurd c (by simp))
        refine ⟨⟨_, b.hl⟩, _, _, b.hl, fun H2' e2' => ?_⟩
        have h2l : H2' l = some (.lst (xsb ++ [x])) := by rw [e2']; exact upd_same
        have bt : But l Hc H2' := by rw [e2']; exact but_upd
        have r0 : 0 ≤ ((xsb ++ [x]).length : Int) % 2 := Int.emod_nonneg _ (by decide)
        have r1 : ((xsb ++ [x]).length : Int) % 2 < 2 := Int.emod_lt_of_pos _ (by decide)
        obtain ⟨o, ho⟩ := w_join (k := 8 + ((xsb ++ [x]).length : Int) % 2) (by omega) (by omega)
        refine ⟨_, .inl (.of h2l), by decide, _, .of (bt _ _ hwl b.ws), _, ho, _, .of h2l, _, atI_end, le_line (by omega), fun p H3 hp e3 => ?_⟩
        have pl' : p ≠ l := fun z => by subst z; rw [h2l] at hp; cases hp
        refine ⟨_, by rw [e3, upd_ne (Ne.symm pl')]; exact h2l, _, ixN_end, fun H4 e4 => ?_⟩
        rw [set_end] at e4
        have b4 := b.grow hHl hwl (s := Stm.bin o sx sy) (ss0 := ssb) (xs0 := xsb) bt h2l hp e3 e4 db fun H' ex hS => mk_bin hS (dx.mono ex) (dy.mono ex)
        refine ⟨⟨_, _, b4, by rw [total_snoc, total_snoc] at ht; rw [total_snoc]; simp [Stm.parts] at ht ⊢; omega, by simp⟩, ?_⟩
        rw [b4.hl, b.hl]
        simp
      · have c : ¬ 1 < xs.length := by simp at c; omega
        obtain ⟨ssa, sy, xsa, y, rfl, rfl, da, dy⟩ := snoc_split b.dp hne
        have e0 : xsa = [] := List.eq_nil_of_length_eq_zero (by rw [List.length_append, List.length_singleton] at c; omega)
        have e0' : ssa = [] := List.eq_nil_of_length_eq_zero (by rw [e0, List.length_append, List.length_append, List.length_singleton, List.length_singleton, List.length_nil] at hlen2; omega)
        subst e0; subst e0'
        refine ⟨_, .of b.hl, _, rfl, q _ sy _ ?_ b.same dy⟩
        have : total ([] ++ [sy]) = sy.parts := by rw [total_snoc]; simp [total]
        simp at ht
        unfold total at ht
        simp at ht
        omega
    · intro σ Hc Q1 Q2 hq
      simp only [tRevS, rSorted, tYes, tComp_def, cxOf, rLenQ, rLenS, rAddS, rLe1, rMax, rMin, rOrd, rInt1, tStrs, rIsi, if_true, if_false, Bool.false_eq_true, tTupF, tLstF, rAppendF, rPopF, rSetLF, rTupleOf, rListOf, rCatF, scal_ss, scal_ii, scal_bb, V_str_eq, V_int_eq, V_bl_eq, tML, tMS, tML0, rJoin, upd_same, upd_upd, HO.lst.injEq, exists_const, and_self, and_assoc, tSeq, tAsg, gName, tC, tVar, tOp, tUn, rI, rI0, rU, tTest, tB, tIfS, tRet, tRetN, tNext, tDrop, tCB, tCons, tNil, tTup, tLst, tCall, tBM, tBM0, tyV, rAppend, rPop, rEq, rNe, rIxL, rIxT, rIxS, tAnd, tOr, tNot, tAndV, tOrV, tNotV, tIf, tIsN, tNotN, tChain, tSl, tNoPart, tPart, rSlS, rInS, rCat, rCatT, gSub, rSetL, gTup, gCons, gNil, L2.start, List.map, List.length, List.replicate, List.getElem?_cons_zero, List.getElem?_cons_succ, List.set_cons_zero, List.set_cons_succ, List.cons_append, List.nil_append, List.append_nil, Option.some.injEq, exists_eq_left', V.ref.injEq, V.int.injEq, V.str.injEq, V.bl.injEq, V.ty.injEq, List.cons.injEq, and_true, true_and, exists_and_left, exists_eq_left, exists_eq', exists_eq_right, Nat.add_one_sub_one, Nat.sub_self, Nat.reduceAdd, Nat.reduceSub]
      rintro ⟨v, hv, p, hp, x, hx, h⟩
      exact ⟨v, hv, p, hp, x, hx, hq _ _ h⟩
/-! ### _law_one_of: some statement of at most thirty parts -/
def spOneOf (K : PySem.W.Frag) : Sp := fun vs H Q _ => ∃ (a : Addr) (ns : List Int) (k : Int), vs = [.ref a, .int k] ∧ SqL K H a (ns.map V.int) ∧ ∀ (v : V) (s : Stm) (H' : Hp), s.parts ≤ 30 → Same H H' → Dp K H' s.d v → Q v H'
theorem ok_one_of (F : Fun K "_law_one_of" "_law_one_of" s__law_one_of f fd) (B : Bl mg) (h__law_cell : Has P w K mg base 1 "_law_cell" p__law_cell (spCell K)) (h__law_draws : Has P w K mg base 2 "_law_draws" p__law_draws spDraws)
    (h__law_pool : Has P w K mg base 3 "_law_pool" p__law_pool spPool) (h__law_built : Has P w K mg base 1 "_law_built" p__law_built (spBuilt K)) : FnOk P w K mg base CX0 4 f fd p__law_one_of (spOneOf K) := by
  refine F.okQ sc__law_one_of (fun vs H Q E h => ?_) (fun cdv A outer s H vs Q E hr h => ?_)
  · obtain ⟨a, ns, k, rfl, _⟩ := h; rfl
  obtain ⟨a, ns, k, rfl, hS, q⟩ := h
  refine ⟨_, (qb_cons (qs_set (i := 2) sc__law_one_of.nd rfl (Or.inl rfl) (q_has h__law_draws hr (by omega) (qa_cons (q_has h__law_cell hr (by omega) (qa_cons (qv 0) (qa_cons (qv 1) qa_nil))) (qa_cons q_int (qa_cons (q_op o_add q_int (q_op o_mul q_int (qv 1))) qa_nil))))) (qb_cons (qs_set (i := 3) sc__law_one_of.nd rfl (Or.inl rfl) (q_has h__law_pool hr (by omega) (qa_cons (q_has h__law_cell hr (by omega) (qa_cons (qv 0) (qa_cons (q_op o_add (qv 1) q_int) qa_nil))) (qa_cons (q_op o_add q_int (q_op o_mod (q_ix i_list (qv 2) q_int) q_int)) (qa_cons (q_op o_add q_int (q_op o_mul q_int (qv 1))) qa_nil))))) (qb_cons (qs_set (i := 4) sc__law_one_of.nd rfl (Or.inl rfl) (q_has h__law_draws hr (by omega) (qa_cons (q_has h__law_cell hr (by omega) (qa_cons (qv 0) (qa_cons (q_op o_add (qv 1) q_int) qa_nil))) (qa_cons q_int (qa_cons (q_op o_add q_int (q_op o_mul q_int (qv 1))) qa_nil))))) (qb_cons (qs_set (i := 4) sc__law_one_of.nd rfl (Or.inl rfl) (q_op o_cat (qv 4) (q_has h__law_draws hr (by omega) (qa_cons (q_has h__law_cell hr (by omega) (qa_cons (qv 0) (qa_cons (q_op o_add (qv 1) q_int) qa_nil))) (qa_cons q_int (qa_cons (q_op o_add q_int (q_op o_mul q_int (qv 1))) qa_nil)))))) (qb_one (qs_ret (q_has h__law_built hr (by omega) (qa_cons (qv 4) (qa_cons (q_op o_add q_int (q_op o_mod (q_ix i_list (qv 2) q_int) q_int)) (qa_cons (qv 3) qa_nil)))))))))), ?_⟩
  simp only [tRevS, rSorted, tYes, tComp_def, cxOf, rLenQ, rLenS, rAddS, rLe1, rMax, rMin, rOrd, rInt1, tStrs, rIsi, if_true, if_false, Bool.false_eq_true, tTupF, tLstF, rAppendF, rPopF, rSetLF, rTupleOf, rListOf, rCatF, scal_ss, scal_ii, scal_bb, V_str_eq, V_int_eq, V_bl_eq, tML, tMS, tML0, rJoin, upd_same, upd_upd, HO.lst.injEq, exists_const, and_self, and_assoc, tSeq, tAsg, gName, tC, tVar, tOp, tUn, rI, rI0, rU, tTest, tB, tIfS, tRet, tRetN, tNext, tDrop, tCB, tCons, tNil, tTup, tLst, tCall, tBM, tBM0, tyV, rAppend, rPop, rEq, rNe, rIxL, rIxT, rIxS, tAnd, tOr, tNot, tAndV, tOrV, tNotV, tIf, tIsN, tNotN, tChain, tSl, tNoPart, tPart, rSlS, rInS, rCat, rCatT, gSub, rSetL, gTup, gCons, gNil, L2.start, List.map, List.length, List.replicate, List.getElem?_cons_zero, List.getElem?_cons_succ, List.set_cons_zero, List.set_cons_succ, List.cons_append, List.nil_append, List.append_nil, Option.some.injEq, exists_eq_left', V.ref.injEq, V.int.injEq, V.str.injEq, V.bl.injEq, V.ty.injEq, List.cons.injEq, and_true, true_and, exists_and_left, exists_eq_left, exists_eq', exists_eq_right, Nat.add_one_sub_one, Nat.sub_self, Nat.reduceAdd, Nat.reduceSub, spCell, spDraws, spPool]
  have cm : CMul 500 k := cmul_l (by decide) (by decide)
  refine ⟨ns, hS, cm, by decide, by decide, fun da hda hna l1 hl1 => ?_⟩
  have g1 := same_new hl1 (.lst (da.map V.int))
  obtain ⟨x0, x1, rfl⟩ : ∃ x y, da = [x, y] := by
    match da, hda with
    | [x, y], _ => exact ⟨x, y, rfl⟩
  have r0 : 0 ≤ x0 % 8 := Int.emod_nonneg _ (by decide)
  have r1 : x0 % 8 < 8 := Int.emod_lt_of_pos _ (by decide)
  refine ⟨ns, g1.seq hS, _, .of upd_same, _, rfl, x0, rfl, by decide, cm, by omega, by omega, fun pl hpl H1 g2 => ?_⟩
  have s1 := g1.trans g2
  refine ⟨ns, s1.seq hS, cm, by decide, by decide, fun db hdb hnb l2 hl2 => ?_⟩
  have g3 := same_new hl2 (.lst (db.map V.int))
  have s3 := s1.trans g3
  refine ⟨ns, s3.seq hS, cm, by decide, by decide, fun dc hdc hnc l3 hl3 => ?_⟩
  have g4 := same_new hl3 (.lst (dc.map V.int))
  have s4 := s3.trans g4
  refine ⟨_, g4 _ _ upd_same, le_line (by rw [List.length_map, List.length_map]; omega), fun l4 H5 hl4 e5 => ?_⟩
  have g5 := same_new hl4 (.lst (db.map V.int ++ dc.map V.int))
  rw [← e5] at g5
  have s5 := s4.trans g5
  have y0 : 0 ≤ x1 % 30 := Int.emod_nonneg _ (by decide)
  have y1 : x1 % 30 < 30 := Int.emod_lt_of_pos _ (by decide)
  refine ⟨_, .of (g5 _ _ (g4 _ _ (g3 _ _ (g2 _ _ upd_same)))), _, rfl, x1, rfl, by decide, ?_⟩
  refine ⟨l4, db ++ dc, 1 + x1 % 30, pl, rfl, by rw [e5, upd_same, List.map_append], by simp; omega, fun d hd => (List.mem_append.mp hd).elim (hnb d) (hnc d), by omega, by omega, by omega, by omega, fun v s H' hp g6 hd => q v s H' hp (s5.trans g6) hd⟩
end
end P
set_option Elab.async false
set_option linter.all false
set_option maxRecDepth 100000
set_option maxHeartbeats 4000000
namespace P
open PySem L2
open PyProof.Rows (boot_int boot_str boot_bool boot_list boot_tuple boot_isinstance boot_max boot_min)
section
variable {P : Program} {w : World} {K : PySem.W.Frag} {mg : Str → Option Value} {base : Heap} {f g : Addr} {fd gd : FuncData} {aT aJ : Addr}
/-! ### the ways -/
def chN (a n : Nat) : Nat := if small a then max n 1 else 2 ^ n
def waysN : Stm → Nat → Nat
  | .two .., _ => 1
  | .one _, _ => 1
  | .neg s, n => waysN s n
  | .bin _ s t, n => waysN s n + waysN t n
  | .bnd _ a s, n => waysN s n * chN a n
theorem chN_le (a : Nat) {n : Nat} (h : n ≤ 100) : chN a n ≤ 2 ^ 100 := by
  unfold chN
  split
  · exact Nat.le_trans (show max n 1 ≤ 100 by omega) (by decide)
  · exact Nat.pow_le_pow_right (by decide) h
theorem waysN_le : ∀ (s : Stm) {n : Nat}, n ≤ 100 → waysN s n ≤ 2 ^ (101 * s.parts)
  | .two .., _, _ => Nat.one_le_two_pow
  | .one _, _, _ => Nat.one_le_two_pow
  | .neg s, n, h => Nat.le_trans (waysN_le s h) (Nat.pow_le_pow_right (by decide) (by show 101 * s.parts ≤ 101 * (s.parts + 1); omega))
  | .bin _ s t, n, h => by
    have h1 := waysN_le s h
    have h2 := waysN_le t h
    have e : 2 ^ (101 * (Stm.bin ‹_› s t).parts) = 2 ^ (101 * s.parts + 101 * t.parts) * 2 ^ 101 := by rw [← Nat.pow_add]; congr 1; show 101 * (s.parts + t.parts + 1) = _; omega
    have p1 : 2 ^ (101 * s.parts) ≤ 2 ^ (101 * s.parts + 101 * t.parts) := Nat.pow_le_pow_right (by decide) (by omega)
    have p2 : 2 ^ (101 * t.parts) ≤ 2 ^ (101 * s.parts + 101 * t.parts) := Nat.pow_le_pow_right (by decide) (by omega)
    rw [e]
    show waysN s n + waysN t n ≤ _
    have : 2 ^ (101 * s.parts + 101 * t.parts) * 2 ≤ 2 ^ (101 * s.parts + 101 * t.parts) * 2 ^ 101 := Nat.mul_le_mul_left _ (by decide)
    omega
  | .bnd al a s, n, h => by
    have h1 := waysN_le s h
    have h2 := chN_le a h
    have e : 2 ^ (101 * (Stm.bnd al a s).parts) = 2 ^ (101 * s.parts) * 2 ^ 101 := by rw [← Nat.pow_add]; congr 1
    rw [e]
    exact Nat.mul_le_mul h1 (Nat.le_trans h2 (by decide))
theorem bits_nat {x m : Nat} (h : x ≤ 2 ^ m) : Builtin.Int.intBits ((x : Nat) : Int) ≤ m + 1 := by
  rw [PySem.intBits_le_iff]
  show x < 2 ^ (m + 1)
  exact Nat.lt_of_le_of_lt h (Nat.pow_lt_pow_right (by decide) (Nat.lt_succ_self m))
theorem mulB_ok {s : Stm} {a n : Nat} (hp : s.parts ≤ 30) (h : n ≤ 100) : Builtin.Int.intBits ((waysN s n : Nat) : Int) ≤ 10000 ∧ Builtin.Int.intBits ((chN a n : Nat) : Int) ≤ 10000 :=
  ⟨Nat.le_trans (bits_nat (waysN_le s h)) (by omega), Nat.le_trans (bits_nat (chN_le a h)) (by decide)⟩
/-! ### two_to, choices_many -/
def spTwo : Sp := fun vs H Q _ => ∃ n : Nat, vs = [.int n] ∧ n ≤ 100 ∧ Q (.int ((2 ^ n : Nat) : Int)) H
theorem ok_two (F : Fun K "two_to" "two_to" s_two_to f fd) (B : Bl mg) : FnOk P w K mg base CX0 1 f fd p_two_to spTwo := by
  refine F.okQ sc_two_to (fun vs H Q E h => ?_) (fun cdv A outer s H vs Q E hr h => ?_)
  · obtain ⟨n, rfl, _⟩ := h; rfl
  obtain ⟨n, rfl, hn, q⟩ := h
  refine ⟨_, (qb_cons (qs_set (i := 1) sc_two_to.nd rfl (Or.inl rfl) q_int) (qb_cons (qs_for PassesOwn.never rfl (qi_range1 B.range (qa_cons (qv 0) qa_nil)) (qg_name (i := 2) sc_two_to.nd rfl (Or.inl rfl)) (qb_one (qs_set (i := 1) sc_two_to.nd rfl (Or.inl rfl) (q_op o_mul (qv 1) q_int)))) (qb_one (qs_ret (qv 1))))), ?_⟩
  simp only [tRevS, rSorted, tYes, tComp_def, cxOf, rLenQ, rLenS, rAddS, rLe1, rMax, rMin, rOrd, rInt1, tStrs, rIsi, if_true, if_false, Bool.false_eq_true, tTupF, tLstF, rAppendF, rPopF, rSetLF, rTupleOf, rListOf, rCatF, scal_ss, scal_ii, scal_bb, V_str_eq, V_int_eq, V_bl_eq, tML, tMS, tML0, rJoin, upd_same, upd_upd, HO.lst.injEq, exists_const, and_self, and_assoc, tSeq, tAsg, gName, tC, tVar, tOp, tUn, rI, rI0, rU, tTest, tB, tIfS, tRet, tRetN, tNext, tDrop, tCB, tCons, tNil, tTup, tLst, tCall, tBM, tBM0, tyV, rAppend, rPop, rEq, rNe, rIxL, rIxT, rIxS, tAnd, tOr, tNot, tAndV, tOrV, tNotV, tIf, tIsN, tNotN, tChain, tSl, tNoPart, tPart, rSlS, rInS, rCat, rCatT, gSub, rSetL, gTup, gCons, gNil, L2.start, List.map, List.length, List.replicate, List.getElem?_cons_zero, List.getElem?_cons_succ, List.set_cons_zero, List.set_cons_succ, List.cons_append, List.nil_append, List.append_nil, Option.some.injEq, exists_eq_left', V.ref.injEq, V.int.injEq, V.str.injEq, V.bl.injEq, V.ty.injEq, List.cons.injEq, and_true, true_and, exists_and_left, exists_eq_left, exists_eq', exists_eq_right, Nat.add_one_sub_one, Nat.sub_self, Nat.reduceAdd, Nat.reduceSub]
  refine ⟨_, rfl, n, rfl, by omega, by omega, for_range (fun i σ H' => ∃ o, σ = [some (.int n), some (.int ((2 ^ i : Nat) : Int)), o] ∧ H' = H) ⟨none, rfl, rfl⟩ ?_ ?_⟩
  · rintro i σ H' hi ⟨o, rfl, rfl⟩
    simp only [tRevS, rSorted, tYes, tComp_def, cxOf, rLenQ, rLenS, rAddS, rLe1, rMax, rMin, rOrd, rInt1, tStrs, rIsi, if_true, if_false, Bool.false_eq_true, tTupF, tLstF, rAppendF, rPopF, rSetLF, rTupleOf, rListOf, rCatF, scal_ss, scal_ii, scal_bb, V_str_eq, V_int_eq, V_bl_eq, tML, tMS, tML0, rJoin, upd_same, upd_upd, HO.lst.injEq, exists_const, and_self, and_assoc, tSeq, tAsg, gName, tC, tVar, tOp, tUn, rI, rI0, rU, tTest, tB, tIfS, tRet, tRetN, tNext, tDrop, tCB, tCons, tNil, tTup, tLst, tCall, tBM, tBM0, tyV, rAppend, rPop, rEq, rNe, rIxL, rIxT, rIxS, tAnd, tOr, tNot, tAndV, tOrV, tNotV, tIf, tIsN, tNotN, tChain, tSl, tNoPart, tPart, rSlS, rInS, rCat, rCatT, gSub, rSetL, gTup, gCons, gNil, L2.start, List.map, List.length, List.replicate, List.getElem?_cons_zero, List.getElem?_cons_succ, List.set_cons_zero, List.set_cons_succ, List.cons_append, List.nil_append, List.append_nil, Option.some.injEq, exists_eq_left', V.ref.injEq, V.int.injEq, V.str.injEq, V.bl.injEq, V.ty.injEq, List.cons.injEq, and_true, true_and, exists_and_left, exists_eq_left, exists_eq', exists_eq_right, Nat.add_one_sub_one, Nat.sub_self, Nat.reduceAdd, Nat.reduceSub]
    refine ⟨cmul_r (by decide) (by decide), ?_⟩
    rw [Nat.pow_succ]; rfl
  · rintro σ H' ⟨o, rfl, rfl⟩
    refine ⟨_, rfl, ?_⟩
    simpa using q
def spChoices : Sp := fun vs H Q _ => ∃ (a n : Nat), vs = [.str (tx [a]), .int n] ∧ n ≤ 100 ∧ Q (.int (chN a n)) H
theorem ok_choices (F : Fun K "choices_many" "choices_many" s_choices_many f fd) (B : Bl mg) (h_is_small : Has P w K mg base 1 "is_small" p_is_small spSmall) (h_two_to : Has P w K mg base 1 "two_to" p_two_to spTwo) : FnOk P w K mg base CX0 2 f fd p_choices_many spChoices := by
  refine F.okQ sc_choices_many (fun vs H Q E h => ?_) (fun cdv A outer s H vs Q E hr h => ?_)
  · obtain ⟨a, n, rfl, _⟩ := h; rfl
  obtain ⟨a, n, rfl, hn, q⟩ := h
  refine ⟨_, (qb_one (qs_ret (q_ifExp (qt_val (q_has h_is_small hr (by omega) (qa_cons (qv 0) qa_nil))) (q_callB c_max B.max boot_max (qa_cons (qv 1) (qa_cons q_int qa_nil))) (q_has h_two_to hr (by omega) (qa_cons (qv 1) qa_nil))))), ?_⟩
  simp only [tRevS, rSorted, tYes, tComp_def, cxOf, rLenQ, rLenS, rAddS, rLe1, rMax, rMin, rOrd, rInt1, tStrs, rIsi, if_true, if_false, Bool.false_eq_true, tTupF, tLstF, rAppendF, rPopF, rSetLF, rTupleOf, rListOf, rCatF, scal_ss, scal_ii, scal_bb, V_str_eq, V_int_eq, V_bl_eq, tML, tMS, tML0, rJoin, upd_same, upd_upd, HO.lst.injEq, exists_const, and_self, and_assoc, tSeq, tAsg, gName, tC, tVar, tOp, tUn, rI, rI0, rU, tTest, tB, tIfS, tRet, tRetN, tNext, tDrop, tCB, tCons, tNil, tTup, tLst, tCall, tBM, tBM0, tyV, rAppend, rPop, rEq, rNe, rIxL, rIxT, rIxS, tAnd, tOr, tNot, tAndV, tOrV, tNotV, tIf, tIsN, tNotN, tChain, tSl, tNoPart, tPart, rSlS, rInS, rCat, rCatT, gSub, rSetL, gTup, gCons, gNil, L2.start, List.map, List.length, List.replicate, List.getElem?_cons_zero, List.getElem?_cons_succ, List.set_cons_zero, List.set_cons_succ, List.cons_append, List.nil_append, List.append_nil, Option.some.injEq, exists_eq_left', V.ref.injEq, V.int.injEq, V.str.injEq, V.bl.injEq, V.ty.injEq, List.cons.injEq, and_true, true_and, exists_and_left, exists_eq_left, exists_eq', exists_eq_right, Nat.add_one_sub_one, Nat.sub_self, Nat.reduceAdd, Nat.reduceSub, spSmall, spTwo]
  refine ⟨a, rfl, ?_⟩
  unfold chN at q
  cases hs : small a with
  | true =>
    rw [hs] at q
    refine if_tt rfl ?_
    have e : (if (1 : Int) > (n : Int) then (1 : Int) else (n : Int)) = ((max n 1 : Nat) : Int) := by split <;> omega
    rw [e]; simpa using q
  | false =>
    rw [hs] at q
    refine if_ff rfl ?_
    exact ⟨n, rfl, hn, by simpa using q⟩
/-! ### ways_of -/
theorem inV_join (a : List Nat) : inV (.str (tx a)) [.str (tx (wJ false)), .str (tx (wJ true))] = decide (a ∈ [wJ false, wJ true]) := inV_str a [wJ false, wJ true]
def spWays (K : PySem.W.Frag) (d : Nat) : Sp := fun vs H Q _ => ∃ (v : V) (s : Stm) (n : Nat), vs = [v, .int n] ∧ Dp K H s.d v ∧ s.dep ≤ d ∧ s.parts ≤ 30 ∧ n ≤ 100 ∧ Q (.int (waysN s n)) H
theorem ok_ways {d : Nat} (F : Fun K "ways_of" "ways_of" s_ways_of f fd) (B : Bl mg) (G : Gc K mg aT aJ) (h_is_plain : Has P w K mg base 1 "is_plain" p_is_plain (spPlain K)) (h_choices_many : Has P w K mg base 2 "choices_many" p_choices_many spChoices)
    (h_ways_of : Has P w K mg base (d + 3) "ways_of" p_ways_of (spWays K d)) : FnOk P w K mg base CX0 (d + 4) f fd p_ways_of (spWays K (d + 1)) := by
  refine F.okQ sc_ways_of (fun vs H Q E h => ?_) (fun cdv A outer s H vs Q E hr h => ?_)
  · obtain ⟨v, s, n, rfl, _⟩ := h; rfl
  obtain ⟨v, s, n, rfl, hd, hdep, hp, hn, q⟩ := h
  refine ⟨_, (qb_cons (qs_set (i := 2) sc_ways_of.nd rfl (Or.inl rfl) (q_ix i_tup (qv 0) q_int)) (qb_cons (qs_if (qt_val (q_has h_is_plain hr (by omega) (qa_cons (qv 0) qa_nil))) (qb_one (qs_ret q_int)) qb_nil) (qb_cons (qs_if (qt_cmp o_eq (qv 2) q_str) (qb_one (qs_ret (q_has h_ways_of hr (by omega) (qa_cons (q_ix i_tup (qv 0) q_int) (qa_cons (qv 1) qa_nil))))) qb_nil) (qb_cons (qs_if (qt_cmp o_in_seq (qv 2) (q_gc G.JOINING)) (qb_one (qs_ret (q_op o_add (q_has h_ways_of hr (by omega) (qa_cons (q_ix i_tup (qv 0) q_int) (qa_cons (qv 1) qa_nil))) (q_has h_ways_of hr (by omega) (qa_cons (q_ix i_tup (qv 0) q_int) (qa_cons (qv 1) qa_nil)))))) qb_nil) (qb_one (qs_ret (q_op o_mulB (q_has h_ways_of hr (by omega) (qa_cons (q_ix i_tup (qv 0) q_int) (qa_cons (qv 1) qa_nil))) (q_has h_choices_many hr (by omega) (qa_cons (q_ix i_tup (qv 0) q_int) (qa_cons (qv 1) qa_nil)))))))))), ?_⟩
  simp only [tRevS, rSorted, tYes, tComp_def, cxOf, rLenQ, rLenS, rAddS, rLe1, rMax, rMin, rOrd, rInt1, tStrs, rIsi, if_true, if_false, Bool.false_eq_true, tTupF, tLstF, rAppendF, rPopF, rSetLF, rTupleOf, rListOf, rCatF, scal_ss, scal_ii, scal_bb, V_str_eq, V_int_eq, V_bl_eq, tML, tMS, tML0, rJoin, upd_same, upd_upd, HO.lst.injEq, exists_const, and_self, and_assoc, tSeq, tAsg, gName, tC, tVar, tOp, tUn, rI, rI0, rU, tTest, tB, tIfS, tRet, tRetN, tNext, tDrop, tCB, tCons, tNil, tTup, tLst, tCall, tBM, tBM0, tyV, rAppend, rPop, rEq, rNe, rIxL, rIxT, rIxS, tAnd, tOr, tNot, tAndV, tOrV, tNotV, tIf, tIsN, tNotN, tChain, tSl, tNoPart, tPart, rSlS, rInS, rCat, rCatT, gSub, rSetL, gTup, gCons, gNil, L2.start, List.map, List.length, List.replicate, List.getElem?_cons_zero, List.getElem?_cons_succ, List.set_cons_zero, List.set_cons_succ, List.cons_append, List.nil_append, List.append_nil, Option.some.injEq, exists_eq_left', V.ref.injEq, V.int.injEq, V.str.injEq, V.bl.injEq, V.ty.injEq, List.cons.injEq, and_true, true_and, exists_and_left, exists_eq_left, exists_eq', exists_eq_right, Nat.add_one_sub_one, Nat.sub_self, Nat.reduceAdd, Nat.reduceSub, t_not, spPlain, rIn]
  cases s with
  | two w a b =>
    obtain ⟨p, rfl, hS⟩ := st_two hd
    exact ⟨p, rfl, _, hS, _, rfl, _, hd, if_tt rfl q⟩
  | one a =>
    obtain ⟨p, rfl, hS⟩ := st_one hd
    exact ⟨p, rfl, _, hS, _, rfl, _, hd, if_tt rfl q⟩
  | neg s =>
    obtain ⟨p, x, rfl, hS, hx⟩ := st_neg hd
    have hp' : s.parts + 1 ≤ 30 := hp
    refine ⟨p, rfl, _, hS, _, rfl, _, hd, if_ff rfl ⟨rfl, if_tt (by rw [V_str_eq]; decide) ⟨p, rfl, _, hS, _, rfl, ?_⟩⟩⟩
    exact ⟨x, s, n, rfl, hx, Nat.le_of_succ_le_succ hdep, by omega, hn, q⟩
  | bin o s t =>
    obtain ⟨p, x, y, rfl, hS, hx, hy⟩ := st_bin hd
    have hp' : s.parts + t.parts + 1 ≤ 30 := hp
    have hd' : max s.dep t.dep + 1 ≤ d + 1 := hdep
    refine ⟨p, rfl, _, hS, _, rfl, _, hd, if_ff rfl ⟨rfl, if_ff (by rw [V_str_eq]; cases o <;> decide) ?_⟩⟩
    refine ⟨_, .inr (G.jn H), rfl, rfl, if_tt (by rw [inV_join]; cases o <;> decide) ⟨p, rfl, _, hS, _, rfl, ?_⟩⟩
    refine ⟨x, s, n, rfl, hx, by omega, by omega, hn, p, rfl, _, hS, _, rfl, ?_⟩
    refine ⟨y, t, n, rfl, hy, by omega, by omega, hn, _, rfl, _, rfl, ?_⟩
    exact q
  | bnd al a s =>
    obtain ⟨p, x, rfl, hS, hx⟩ := st_bnd hd
    have hp' : s.parts + 1 ≤ 30 := hp
    refine ⟨p, rfl, _, hS, _, rfl, _, hd, if_ff rfl ⟨rfl, if_ff (by rw [V_str_eq]; cases al <;> decide) ?_⟩⟩
    refine ⟨_, .inr (G.jn H), rfl, rfl, if_ff (by rw [inV_join]; cases al <;> decide) ⟨p, rfl, _, hS, _, rfl, ?_⟩⟩
    refine ⟨x, s, n, rfl, hx, Nat.le_of_succ_le_succ hdep, by omega, hn, p, rfl, _, hS, _, rfl, ?_⟩
    refine ⟨a, n, rfl, hn, _, rfl, _, rfl, mulB_ok (by omega) hn, ?_⟩
    exact q
theorem Stm.dep_pos : ∀ s : Stm, 1 ≤ s.dep
  | .two .. => Nat.le_refl _
  | .one _ => Nat.le_refl _
  | .neg s => Nat.succ_le_succ (Nat.zero_le _)
  | .bin _ s t => Nat.succ_le_succ (Nat.zero_le _)
  | .bnd _ _ s => Nat.succ_le_succ (Nat.zero_le _)
theorem has_ways (F : Fun K "ways_of" "ways_of" s_ways_of f fd) (m : mg "ways_of" = some (.ref f)) (B : Bl mg) (G : Gc K mg aT aJ) (h_is_plain : Has P w K mg base 1 "is_plain" p_is_plain (spPlain K)) (h_choices_many : Has P w K mg base 2 "choices_many" p_choices_many spChoices) :
    ∀ d : Nat, Has P w K mg base (d + 3) "ways_of" p_ways_of (spWays K d)
  | 0 => by
    refine has_mk F m (fun _ _ _ _ _ _ us hl => match us, hl with | [_, _], _ => rfl) ?_
    have no : ∀ vs H Q E, ¬ spWays K 0 vs H Q E := fun vs H Q E ⟨v, s, n, _, _, hn, _⟩ => by have := Stm.dep_pos s; omega
    exact ⟨fun vs H Q E h => absurd h (no vs H Q E), fun A outer s H args us vs Q E _ _ _ _ h => absurd h (no vs H Q E)⟩
  | d + 1 => has_mk F m (fun _ _ _ _ _ _ us hl => match us, hl with | [_, _], _ => rfl) (ok_ways F B G h_is_plain h_choices_many (has_ways F m B G h_is_plain h_choices_many d))
/-! ### _law_ways -/
theorem t_small : Str.ofString "abcdefghijklmnopqrstuvwxyz" = tx [97, 98, 99, 100, 101, 102, 103, 104, 105, 106, 107, 108, 109, 110, 111, 112, 113, 114, 115, 116, 117, 118, 119, 120, 121, 122] := by decide +kernel
theorem small_mem (a : Nat) : decide (a ∈ [97, 98, 99, 100, 101, 102, 103, 104, 105, 106, 107, 108, 109, 110, 111, 112, 113, 114, 115, 116, 117, 118, 119, 120, 121, 122]) = small a := by
  unfold small
  by_cases h : 97 ≤ a ∧ a ≤ 122
  · rw [decide_eq_true h.1, decide_eq_true h.2]
    have : ∀ b : _root_.Fin 26, decide (97 + b.val ∈ [97, 98, 99, 100, 101, 102, 103, 104, 105, 106, 107, 108, 109, 110, 111, 112, 113, 114, 115, 116, 117, 118, 119, 120, 121, 122]) = true := by decide
    have k := this ⟨a - 97, by omega⟩
    rw [show 97 + (⟨a - 97, by omega⟩ : _root_.Fin 26).val = a from by show 97 + (a - 97) = a; omega] at k
    rw [k]; rfl
  · have e : (decide (97 ≤ a) && decide (a ≤ 122)) = false := by
      rw [Bool.and_eq_false_iff]
      by_cases h1 : 97 ≤ a
      · exact .inr (decide_eq_false fun h2 => h ⟨h1, h2⟩)
      · exact .inl (decide_eq_false h1)
    rw [e]
    apply decide_eq_false
    intro z
    simp at z
    omega
theorem vne {a b : List Nat} (h : decide (a = b) = false) : decide (V.str (tx a) = V.str (tx b)) = false := by rw [V_str_eq]; exact h
theorem veq {a b : List Nat} (h : decide (a = b) = true) : decide (V.str (tx a) = V.str (tx b)) = true := by rw [V_str_eq]; exact h
theorem w2n1 : ∀ w : _root_.Fin 4, decide (w2 w = wNot) = false := by decide
theorem w2n2 : ∀ w : _root_.Fin 4, decide (w2 w = wJ false) = false := by decide
theorem w2n3 : ∀ w : _root_.Fin 4, decide (w2 w = wJ true) = false := by decide
theorem w2n4 : ∀ w : _root_.Fin 4, decide (w2 w = wB false) = false := by decide
theorem w2n5 : ∀ w : _root_.Fin 4, decide (w2 w = wB true) = false := by decide
theorem ok_lways {d : Nat} (F : Fun K "_law_ways" "_law_ways" s__law_ways f fd) (B : Bl mg) (h__law_ways : Has P w K mg base (d + 1) "_law_ways" p__law_ways (spWays K d)) : FnOk P w K mg base CX0 (d + 2) f fd p__law_ways (spWays K (d + 1)) := by
  refine F.okQ sc__law_ways (fun vs H Q E h => ?_) (fun cdv A outer s H vs Q E hr h => ?_)
  · obtain ⟨v, s, n, rfl, _⟩ := h; rfl
  obtain ⟨v, s, n, rfl, hd, hdep, hp, hn, q⟩ := h
  refine ⟨_, (qb_cons (qs_if (qt_cmp o_eq (q_ix i_tup (qv 0) q_int) q_str) (qb_one (qs_ret (q_has h__law_ways hr (by omega) (qa_cons (q_ix i_tup (qv 0) q_int) (qa_cons (qv 1) qa_nil))))) qb_nil) (qb_cons (qs_if (qt_w (qw_or (qt_cmp o_eq (q_ix i_tup (qv 0) q_int) q_str) (qw_or1 (qt_cmp o_eq (q_ix i_tup (qv 0) q_int) q_str)))) (qb_one (qs_ret (q_op o_add (q_has h__law_ways hr (by omega) (qa_cons (q_ix i_tup (qv 0) q_int) (qa_cons (qv 1) qa_nil))) (q_has h__law_ways hr (by omega) (qa_cons (q_ix i_tup (qv 0) q_int) (qa_cons (qv 1) qa_nil)))))) qb_nil) (qb_cons (qs_if (qt_w (qw_or (qt_cmp o_eq (q_ix i_tup (qv 0) q_int) q_str) (qw_or1 (qt_cmp o_eq (q_ix i_tup (qv 0) q_int) q_str)))) (qb_cons (qs_if (qt_cmp o_in_one (q_ix i_tup (qv 0) q_int) q_str) (qb_one (qs_ret (q_op o_mulB (q_callB c_max B.max boot_max (qa_cons q_int (qa_cons (qv 1) qa_nil))) (q_has h__law_ways hr (by omega) (qa_cons (q_ix i_tup (qv 0) q_int) (qa_cons (qv 1) qa_nil)))))) qb_nil) (qb_one (qs_ret (q_op o_mulB (q_op o_shl q_int (qv 1)) (q_has h__law_ways hr (by omega) (qa_cons (q_ix i_tup (qv 0) q_int) (qa_cons (qv 1) qa_nil))))))) qb_nil) (qb_one (qs_ret q_int))))), ?_⟩
  have fin : ∀ {o : Bool} {s t : Stm} {x y : V} {p : Addr}, SqT K H p [.str (tx (wJ o)), x, y] → Dp K H s.d x → Dp K H t.d y → s.dep ≤ d → t.dep ≤ d → s.parts ≤ 30 → t.parts ≤ 30 → Q (.int ((waysN s n + waysN t n : Nat) : Int)) H →
      ∃ z, SqT K H p z ∧ ∃ x1, atI z 1 = some x1 ∧ spWays K d [x1, V.int n] H (fun x H1 => ∃ z2, SqT K H1 p z2 ∧ ∃ x3, atI z2 2 = some x3 ∧ spWays K d [x3, V.int n] H1 (fun y H2 => ∃ i, x = V.int i ∧ ∃ x, y = V.int x ∧ Q (V.int (i + x)) H2) E0) E0 :=
    fun {o s t x y p} hS hx hy h1 h2 h3 h4 q => ⟨_, hS, _, rfl, x, s, n, rfl, hx, h1, h3, hn, _, hS, _, rfl, y, t, n, rfl, hy, h2, h4, hn, _, rfl, _, rfl, q⟩
  cases s with
  | two w a b =>
    obtain ⟨p, rfl, hS⟩ := st_two hd
    simp only [tRevS, rSorted, tYes, tComp_def, cxOf, rLenQ, rLenS, rAddS, rLe1, rMax, rMin, rOrd, rInt1, tStrs, rIsi, if_true, if_false, Bool.false_eq_true, tTupF, tLstF, rAppendF, rPopF, rSetLF, rTupleOf, rListOf, rCatF, scal_ss, scal_ii, scal_bb, V_str_eq, V_int_eq, V_bl_eq, tML, tMS, tML0, rJoin, upd_same, upd_upd, HO.lst.injEq, exists_const, and_self, and_assoc, tSeq, tAsg, gName, tC, tVar, tOp, tUn, rI, rI0, rU, tTest, tB, tIfS, tRet, tRetN, tNext, tDrop, tCB, tCons, tNil, tTup, tLst, tCall, tBM, tBM0, tyV, rAppend, rPop, rEq, rNe, rIxL, rIxT, rIxS, tAnd, tOr, tNot, tAndV, tOrV, tNotV, tIf, tIsN, tNotN, tChain, tSl, tNoPart, tPart, rSlS, rInS, rCat, rCatT, gSub, rSetL, gTup, gCons, gNil, L2.start, List.map, List.length, List.replicate, List.getElem?_cons_zero, List.getElem?_cons_succ, List.set_cons_zero, List.set_cons_succ, List.cons_append, List.nil_append, List.append_nil, Option.some.injEq, exists_eq_left', V.ref.injEq, V.int.injEq, V.str.injEq, V.bl.injEq, V.ty.injEq, List.cons.injEq, and_true, true_and, exists_and_left, exists_eq_left, exists_eq', exists_eq_right, Nat.add_one_sub_one, Nat.sub_self, Nat.reduceAdd, Nat.reduceSub, t_not, t_and, t_or, t_some, t_all, t_small]
    exact ⟨_, hS, _, rfl, rfl, if_ff (vne (w2n1 w)) ⟨_, hS, _, rfl, rfl, if_ff (vne (w2n2 w)) ⟨_, hS, _, rfl, rfl, if_ff (vne (w2n3 w)) ⟨_, hS, _, rfl, rfl, if_ff (vne (w2n4 w)) ⟨_, hS, _, rfl, rfl, if_ff (vne (w2n5 w)) q⟩⟩⟩⟩⟩
  | one a =>
    obtain ⟨p, rfl, hS⟩ := st_one hd
    simp only [tRevS, rSorted, tYes, tComp_def, cxOf, rLenQ, rLenS, rAddS, rLe1, rMax, rMin, rOrd, rInt1, tStrs, rIsi, if_true, if_false, Bool.false_eq_true, tTupF, tLstF, rAppendF, rPopF, rSetLF, rTupleOf, rListOf, rCatF, scal_ss, scal_ii, scal_bb, V_str_eq, V_int_eq, V_bl_eq, tML, tMS, tML0, rJoin, upd_same, upd_upd, HO.lst.injEq, exists_const, and_self, and_assoc, tSeq, tAsg, gName, tC, tVar, tOp, tUn, rI, rI0, rU, tTest, tB, tIfS, tRet, tRetN, tNext, tDrop, tCB, tCons, tNil, tTup, tLst, tCall, tBM, tBM0, tyV, rAppend, rPop, rEq, rNe, rIxL, rIxT, rIxS, tAnd, tOr, tNot, tAndV, tOrV, tNotV, tIf, tIsN, tNotN, tChain, tSl, tNoPart, tPart, rSlS, rInS, rCat, rCatT, gSub, rSetL, gTup, gCons, gNil, L2.start, List.map, List.length, List.replicate, List.getElem?_cons_zero, List.getElem?_cons_succ, List.set_cons_zero, List.set_cons_succ, List.cons_append, List.nil_append, List.append_nil, Option.some.injEq, exists_eq_left', V.ref.injEq, V.int.injEq, V.str.injEq, V.bl.injEq, V.ty.injEq, List.cons.injEq, and_true, true_and, exists_and_left, exists_eq_left, exists_eq', exists_eq_right, Nat.add_one_sub_one, Nat.sub_self, Nat.reduceAdd, Nat.reduceSub, t_not, t_and, t_or, t_some, t_all, t_small]
    exact ⟨_, hS, _, rfl, rfl, if_ff (vne (by decide)) ⟨_, hS, _, rfl, rfl, if_ff (vne (by decide)) ⟨_, hS, _, rfl, rfl, if_ff (vne (by decide)) ⟨_, hS, _, rfl, rfl, if_ff (vne (by decide)) ⟨_, hS, _, rfl, rfl, if_ff (vne (by decide)) q⟩⟩⟩⟩⟩
  | neg s =>
    obtain ⟨p, x, rfl, hS, hx⟩ := st_neg hd
    have hp' : s.parts + 1 ≤ 30 := hp
    simp only [tRevS, rSorted, tYes, tComp_def, cxOf, rLenQ, rLenS, rAddS, rLe1, rMax, rMin, rOrd, rInt1, tStrs, rIsi, if_true, if_false, Bool.false_eq_true, tTupF, tLstF, rAppendF, rPopF, rSetLF, rTupleOf, rListOf, rCatF, scal_ss, scal_ii, scal_bb, V_str_eq, V_int_eq, V_bl_eq, tML, tMS, tML0, rJoin, upd_same, upd_upd, HO.lst.injEq, exists_const, and_self, and_assoc, tSeq, tAsg, gName, tC, tVar, tOp, tUn, rI, rI0, rU, tTest, tB, tIfS, tRet, tRetN, tNext, tDrop, tCB, tCons, tNil, tTup, tLst, tCall, tBM, tBM0, tyV, rAppend, rPop, rEq, rNe, rIxL, rIxT, rIxS, tAnd, tOr, tNot, tAndV, tOrV, tNotV, tIf, tIsN, tNotN, tChain, tSl, tNoPart, tPart, rSlS, rInS, rCat, rCatT, gSub, rSetL, gTup, gCons, gNil, L2.start, List.map, List.length, List.replicate, List.getElem?_cons_zero, List.getElem?_cons_succ, List.set_cons_zero, List.set_cons_succ, List.cons_append, List.nil_append, List.append_nil, Option.some.injEq, exists_eq_left', V.ref.injEq, V.int.injEq, V.str.injEq, V.bl.injEq, V.ty.injEq, List.cons.injEq, and_true, true_and, exists_and_left, exists_eq_left, exists_eq', exists_eq_right, Nat.add_one_sub_one, Nat.sub_self, Nat.reduceAdd, Nat.reduceSub, t_not, t_and, t_or, t_some, t_all, t_small]
    exact ⟨_, hS, _, rfl, rfl, if_tt (veq (by decide)) ⟨_, hS, _, rfl, x, s, n, rfl, hx, Nat.le_of_succ_le_succ hdep, by omega, hn, q⟩⟩
  | bin o s t =>
    obtain ⟨p, x, y, rfl, hS, hx, hy⟩ := st_bin hd
    have hp' : s.parts + t.parts + 1 ≤ 30 := hp
    have hd' : max s.dep t.dep + 1 ≤ d + 1 := hdep
    simp only [tRevS, rSorted, tYes, tComp_def, cxOf, rLenQ, rLenS, rAddS, rLe1, rMax, rMin, rOrd, rInt1, tStrs, rIsi, if_true, if_false, Bool.false_eq_true, tTupF, tLstF, rAppendF, rPopF, rSetLF, rTupleOf, rListOf, rCatF, scal_ss, scal_ii, scal_bb, V_str_eq, V_int_eq, V_bl_eq, tML, tMS, tML0, rJoin, upd_same, upd_upd, HO.lst.injEq, exists_const, and_self, and_assoc, tSeq, tAsg, gName, tC, tVar, tOp, tUn, rI, rI0, rU, tTest, tB, tIfS, tRet, tRetN, tNext, tDrop, tCB, tCons, tNil, tTup, tLst, tCall, tBM, tBM0, tyV, rAppend, rPop, rEq, rNe, rIxL, rIxT, rIxS, tAnd, tOr, tNot, tAndV, tOrV, tNotV, tIf, tIsN, tNotN, tChain, tSl, tNoPart, tPart, rSlS, rInS, rCat, rCatT, gSub, rSetL, gTup, gCons, gNil, L2.start, List.map, List.length, List.replicate, List.getElem?_cons_zero, List.getElem?_cons_succ, List.set_cons_zero, List.set_cons_succ, List.cons_append, List.nil_append, List.append_nil, Option.some.injEq, exists_eq_left', V.ref.injEq, V.int.injEq, V.str.injEq, V.bl.injEq, V.ty.injEq, List.cons.injEq, and_true, true_and, exists_and_left, exists_eq_left, exists_eq', exists_eq_right, Nat.add_one_sub_one, Nat.sub_self, Nat.reduceAdd, Nat.reduceSub, t_not, t_and, t_or, t_some, t_all, t_small]
    refine ⟨_, hS, _, rfl, rfl, if_ff (vne (by cases o <;> decide)) ⟨_, hS, _, rfl, rfl, ?_⟩⟩
    cases o with
    | false => exact if_tt (veq (by decide)) (fin hS hx hy (by omega) (by omega) (by omega) (by omega) q)
    | true => exact if_ff (vne (by decide)) ⟨_, hS, _, rfl, rfl, if_tt (veq (by decide)) (fin hS hx hy (by omega) (by omega) (by omega) (by omega) q)⟩
  | bnd al a s =>
    obtain ⟨p, x, rfl, hS, hx⟩ := st_bnd hd
    have hp' : s.parts + 1 ≤ 30 := hp
    have hd' := Nat.le_of_succ_le_succ hdep
    have mb := mulB_ok (s := s) (a := a) (by omega) hn
    have eM : (if (n : Int) > (1 : Int) then (n : Int) else (1 : Int)) = ((max n 1 : Nat) : Int) := by split <;> omega
    have eP : (1 : Int) * 2 ^ (n : Int).toNat = ((2 ^ n : Nat) : Int) := by rw [Int.toNat_natCast, Int.one_mul]; norm_cast
    have q' : Q (.int (((chN a n : Nat) : Int) * (waysN s n : Nat))) H := by rw [Int.mul_comm]; exact q
    simp only [tRevS, rSorted, tYes, tComp_def, cxOf, rLenQ, rLenS, rAddS, rLe1, rMax, rMin, rOrd, rInt1, tStrs, rIsi, if_true, if_false, Bool.false_eq_true, tTupF, tLstF, rAppendF, rPopF, rSetLF, rTupleOf, rListOf, rCatF, scal_ss, scal_ii, scal_bb, V_str_eq, V_int_eq, V_bl_eq, tML, tMS, tML0, rJoin, upd_same, upd_upd, HO.lst.injEq, exists_const, and_self, and_assoc, tSeq, tAsg, gName, tC, tVar, tOp, tUn, rI, rI0, rU, tTest, tB, tIfS, tRet, tRetN, tNext, tDrop, tCB, tCons, tNil, tTup, tLst, tCall, tBM, tBM0, tyV, rAppend, rPop, rEq, rNe, rIxL, rIxT, rIxS, tAnd, tOr, tNot, tAndV, tOrV, tNotV, tIf, tIsN, tNotN, tChain, tSl, tNoPart, tPart, rSlS, rInS, rCat, rCatT, gSub, rSetL, gTup, gCons, gNil, L2.start, List.map, List.length, List.replicate, List.getElem?_cons_zero, List.getElem?_cons_succ, List.set_cons_zero, List.set_cons_succ, List.cons_append, List.nil_append, List.append_nil, Option.some.injEq, exists_eq_left', V.ref.injEq, V.int.injEq, V.str.injEq, V.bl.injEq, V.ty.injEq, List.cons.injEq, and_true, true_and, exists_and_left, exists_eq_left, exists_eq', exists_eq_right, Nat.add_one_sub_one, Nat.sub_self, Nat.reduceAdd, Nat.reduceSub, t_not, t_and, t_or, t_some, t_all, t_small]
    refine ⟨_, hS, _, rfl, rfl, if_ff (vne (by cases al <;> decide)) ⟨_, hS, _, rfl, rfl, if_ff (vne (by cases al <;> decide)) ⟨_, hS, _, rfl, rfl, if_ff (vne (by cases al <;> decide)) ⟨_, hS, _, rfl, rfl, ?_⟩⟩⟩⟩
    cases al with
    | false =>
      refine if_tt (veq (by decide)) ⟨_, hS, _, rfl, a, rfl, _, rfl, ?_⟩
      rw [small_mem]
      cases hs : small a with
      | true =>
        have cc : chN a n = max n 1 := by unfold chN; rw [hs]; rfl
        rw [cc] at q' mb
        refine if_tt rfl ?_
        rw [eM]
        exact ⟨_, hS, _, rfl, x, s, n, rfl, hx, hd', by omega, hn, _, rfl, ⟨mb.2, mb.1⟩, q'⟩
      | false =>
        have cc : chN a n = 2 ^ n := by unfold chN; rw [hs]; rfl
        rw [cc] at q' mb
        refine if_ff rfl ⟨⟨by omega, by omega, by decide⟩, ?_⟩
        rw [eP]
        exact ⟨_, hS, _, rfl, x, s, n, rfl, hx, hd', by omega, hn, _, rfl, ⟨mb.2, mb.1⟩, q'⟩
    | true =>
      refine if_ff (vne (by decide)) ⟨_, hS, _, rfl, rfl, ?_⟩
      refine if_tt (veq (by decide)) ⟨_, hS, _, rfl, a, rfl, _, rfl, ?_⟩
      rw [small_mem]
      cases hs : small a with
      | true =>
        have cc : chN a n = max n 1 := by unfold chN; rw [hs]; rfl
        rw [cc] at q' mb
        refine if_tt rfl ?_
        rw [eM]
        exact ⟨_, hS, _, rfl, x, s, n, rfl, hx, hd', by omega, hn, _, rfl, ⟨mb.2, mb.1⟩, q'⟩
      | false =>
        have cc : chN a n = 2 ^ n := by unfold chN; rw [hs]; rfl
        rw [cc] at q' mb
        refine if_ff rfl ⟨⟨by omega, by omega, by decide⟩, ?_⟩
        rw [eP]
        exact ⟨_, hS, _, rfl, x, s, n, rfl, hx, hd', by omega, hn, _, rfl, ⟨mb.2, mb.1⟩, q'⟩
theorem has_lways (F : Fun K "_law_ways" "_law_ways" s__law_ways f fd) (m : mg "_law_ways" = some (.ref f)) (B : Bl mg) : ∀ d : Nat, Has P w K mg base (d + 1) "_law_ways" p__law_ways (spWays K d)
  | 0 => by
    refine has_mk F m (fun _ _ _ _ _ _ us hl => match us, hl with | [_, _], _ => rfl) ?_
    have no : ∀ vs H Q E, ¬ spWays K 0 vs H Q E := fun vs H Q E ⟨v, s, n, _, _, hn, _⟩ => by have := Stm.dep_pos s; omega
    exact ⟨fun vs H Q E h => absurd h (no vs H Q E), fun A outer s H args us vs Q E _ _ _ _ h => absurd h (no vs H Q E)⟩
  | d + 1 => has_mk F m (fun _ _ _ _ _ _ us hl => match us, hl with | [_, _], _ => rfl) (ok_lways F B (has_lways F m B d))
/-! ### law -/
def spLaw (K : PySem.W.Frag) : Sp := fun vs H Q _ => ∃ (a : Addr) (ns : List Int), vs = [.ref a] ∧ SqL K H a (ns.map V.int) ∧ ns.length ≤ 63 ∧ ∀ H', Q (.bl true) H'
theorem ok_law (F : Fun K "law" "law" s_law f fd) (B : Bl mg) (h__law_one_of : Has P w K mg base 4 "_law_one_of" p__law_one_of (spOneOf K)) (h__law_cell : Has P w K mg base 1 "_law_cell" p__law_cell (spCell K)) (h__law_draws : Has P w K mg base 2 "_law_draws" p__law_draws spDraws)
    (h__law_ways : Has P w K mg base 31 "_law_ways" p__law_ways (spWays K 30)) (h_ways_of : Has P w K mg base 33 "ways_of" p_ways_of (spWays K 30)) : FnOk P w K mg base CX0 40 f fd p_law (spLaw K) := by
  refine F.okQ sc_law (fun vs H Q E h => ?_) (fun cdv A outer s H vs Q E hr h => ?_)
  · obtain ⟨a, ns, rfl, _⟩ := h; rfl
  obtain ⟨a, ns, rfl, hS, hn, q⟩ := h
  refine ⟨_, (qb_cons (qs_set (i := 1) sc_law.nd rfl (Or.inl rfl) (q_has h__law_one_of hr (by omega) (qa_cons (qv 0) (qa_cons q_int qa_nil)))) (qb_cons (qs_set (i := 2) sc_law.nd rfl (Or.inl rfl) (q_has h__law_one_of hr (by omega) (qa_cons (qv 0) (qa_cons q_int qa_nil)))) (qb_cons (qs_set (i := 3) sc_law.nd rfl (Or.inl rfl) (q_has h__law_draws hr (by omega) (qa_cons (q_has h__law_cell hr (by omega) (qa_cons (qv 0) (qa_cons q_int qa_nil))) (qa_cons q_int (qa_cons q_int qa_nil))))) (qb_cons (qs_set (i := 4) sc_law.nd rfl (Or.inl rfl) (q_lst (qa_cons (q_op o_mod (q_op o_add (q_op o_mul q_int (q_ix i_list (qv 3) q_int)) (q_ix i_list (qv 3) q_int)) q_int) (qa_cons q_int (qa_cons q_int (qa_cons q_int qa_nil)))))) (qb_cons (qs_for PassesOwn.never rfl (qi_tup (q_tup (qa_cons (qv 1) (qa_cons (qv 2) (qa_cons (qv 1) qa_nil))))) (qg_name (i := 5) sc_law.nd rfl (Or.inl rfl)) (qb_one (qs_for PassesOwn.never rfl (qi_list (qv 4)) (qg_name (i := 6) sc_law.nd rfl (Or.inl rfl)) (qb_cons (qs_set (i := 7) sc_law.nd rfl (Or.inl rfl) (q_has h_ways_of hr (by omega) (qa_cons (qv 5) (qa_cons (qv 6) qa_nil)))) (qb_one (qs_if (qt_w (qw_or (qt_not (qt_val (q_callB c_isi B.isinstance boot_isinstance (qa_cons (qv 7) (qa_cons (q_ty B.int boot_int) qa_nil))))) (qw_or (qt_val (q_callB c_isi B.isinstance boot_isinstance (qa_cons (qv 7) (qa_cons (q_ty B.bool boot_bool) qa_nil)))) (qw_or1 (qt_cmp o_ne (qv 7) (q_has h__law_ways hr (by omega) (qa_cons (qv 5) (qa_cons (qv 6) qa_nil)))))))) (qb_one (qs_ret q_bl)) qb_nil)))))) (qb_one (qs_ret q_bl))))))), ?_⟩
  simp only [tRevS, rSorted, tYes, tComp_def, cxOf, rLenQ, rLenS, rAddS, rLe1, rMax, rMin, rOrd, rInt1, tStrs, rIsi, if_true, if_false, Bool.false_eq_true, tTupF, tLstF, rAppendF, rPopF, rSetLF, rTupleOf, rListOf, rCatF, scal_ss, scal_ii, scal_bb, V_str_eq, V_int_eq, V_bl_eq, tML, tMS, tML0, rJoin, upd_same, upd_upd, HO.lst.injEq, exists_const, and_self, and_assoc, tSeq, tAsg, gName, tC, tVar, tOp, tUn, rI, rI0, rU, tTest, tB, tIfS, tRet, tRetN, tNext, tDrop, tCB, tCons, tNil, tTup, tLst, tCall, tBM, tBM0, tyV, rAppend, rPop, rEq, rNe, rIxL, rIxT, rIxS, tAnd, tOr, tNot, tAndV, tOrV, tNotV, tIf, tIsN, tNotN, tChain, tSl, tNoPart, tPart, rSlS, rInS, rCat, rCatT, gSub, rSetL, gTup, gCons, gNil, L2.start, List.map, List.length, List.replicate, List.getElem?_cons_zero, List.getElem?_cons_succ, List.set_cons_zero, List.set_cons_succ, List.cons_append, List.nil_append, List.append_nil, Option.some.injEq, exists_eq_left', V.ref.injEq, V.int.injEq, V.str.injEq, V.bl.injEq, V.ty.injEq, List.cons.injEq, and_true, true_and, exists_and_left, exists_eq_left, exists_eq', exists_eq_right, Nat.add_one_sub_one, Nat.sub_self, Nat.reduceAdd, Nat.reduceSub, spOneOf, spCell, spDraws]
  refine ⟨ns, hS, fun v1 s1 H1 hp1 g1 hd1 => ⟨ns, g1.seq hS, fun v2 s2 H2 hp2 g2 hd2 => ⟨ns, g2.seq (g1.seq hS), by decide, by decide, fun ds hds hnn l hl => ?_⟩⟩⟩
  obtain ⟨x0, x1, rfl⟩ : ∃ x y, ds = [x, y] := by
    match ds, hds with
    | [x, y], _ => exact ⟨x, y, rfl⟩
  have g3 := same_new hl (.lst ([x0, x1].map V.int))
  refine ⟨_, .of upd_same, _, rfl, x0, rfl, cmul_l (by decide) (by decide), _, .of upd_same, _, rfl, x1, rfl, by decide, le_line (by decide), fun ps H4 hps e4 => ?_⟩
  have g4 := same_new hps (.lst [V.int ((64 * x0 + x1) % 101), V.int 0, V.int 1, V.int 100])
  rw [← e4] at g4
  have hps4 : H4 ps = some (.lst [V.int ((64 * x0 + x1) % 101), V.int 0, V.int 1, V.int 100]) := by rw [e4, upd_same]
  have r0 : 0 ≤ (64 * x0 + x1) % 101 := Int.emod_nonneg _ (by decide)
  have r1 : (64 * x0 + x1) % 101 < 101 := Int.emod_lt_of_pos _ (by decide)
  generalize (64 * x0 + x1) % 101 = z at r0 r1 hps4
  refine ⟨v1, rfl, v2, rfl, v1, rfl, le_line (by simp), fun pt H5 hpt e5 => ⟨pt, rfl, ⟨[v1, v2, v1], by rw [e5]; exact SqT.new⟩, ?_⟩⟩
  have g5 : Same H4 H5 := by rw [e5]; exact same_new hpt _
  have x2 : Ext K H2 H5 := SqT.same ((g3.trans g4).trans g5)
  have hd1' := (hd1.mono (SqT.same g2)).mono x2
  have hd2' := hd2.mono x2
  have hpt5 : H5 pt = some (.tup [v1, v2, v1]) := by rw [e5, upd_same]
  refine for_tup (xs := [v1, v2, v1]) (fun i σ Hc => ∃ o5 o6 o7 : Option V, σ = [some (.ref a), some v1, some v2, some (.ref l), some (.ref ps), o5, o6, o7] ∧ Hc = H5) ⟨none, none, none, rfl, rfl⟩ (fun i σ Hc _ ⟨_, _, _, _, e⟩ => by rw [e]; exact .of hpt5) ?_ ?_
  · rintro i x σ Hc hx ⟨o5, o6, o7, rfl, rfl⟩
    obtain ⟨sx, hpx, hdx⟩ : ∃ sx : Stm, sx.parts ≤ 30 ∧ Dp K Hc sx.d x := by
      match i, hx with
      | 0, hx => simp at hx; subst hx; exact ⟨s1, hp1, hd1'⟩
      | 1, hx => simp at hx; subst hx; exact ⟨s2, hp2, hd2'⟩
      | 2, hx => simp at hx; subst hx; exact ⟨s1, hp1, hd1'⟩
      | i + 3, hx => simp at hx
    have hdep := Stm.dep_le sx
    refine ⟨_, rfl, ps, rfl, ⟨_, .of (g5 _ _ hps4)⟩, for_list (xs := [V.int z, V.int 0, V.int 1, V.int 100]) (fun i σ Hd => ∃ o6 o7 : Option V, σ = [some (.ref a), some v1, some v2, some (.ref l), some (.ref ps), some x, o6, o7] ∧ Hd = Hc) ⟨_, _, rfl, rfl⟩ (fun i σ Hd _ ⟨_, _, _, e⟩ => by rw [e]; exact .of (g5 _ _ hps4)) ?_ ?_⟩
    · rintro i y σ Hd hy ⟨o6, o7, rfl, rfl⟩
      obtain ⟨n, rfl, hn⟩ : ∃ n : Nat, y = V.int n ∧ n ≤ 100 := by
        match i, hy with
        | 0, hy => simp at hy; subst hy; exact ⟨z.toNat, by congr 1; omega, by omega⟩
        | 1, hy => simp at hy; subst hy; exact ⟨0, rfl, by decide⟩
        | 2, hy => simp at hy; subst hy; exact ⟨1, rfl, by decide⟩
        | 3, hy => simp at hy; subst hy; exact ⟨100, rfl, by decide⟩
        | i + 4, hy => simp at hy
      simp only [tRevS, rSorted, tYes, tComp_def, cxOf, rLenQ, rLenS, rAddS, rLe1, rMax, rMin, rOrd, rInt1, tStrs, rIsi, if_true, if_false, Bool.false_eq_true, tTupF, tLstF, rAppendF, rPopF, rSetLF, rTupleOf, rListOf, rCatF, scal_ss, scal_ii, scal_bb, V_str_eq, V_int_eq, V_bl_eq, tML, tMS, tML0, rJoin, upd_same, upd_upd, HO.lst.injEq, exists_const, and_self, and_assoc, tSeq, tAsg, gName, tC, tVar, tOp, tUn, rI, rI0, rU, tTest, tB, tIfS, tRet, tRetN, tNext, tDrop, tCB, tCons, tNil, tTup, tLst, tCall, tBM, tBM0, tyV, rAppend, rPop, rEq, rNe, rIxL, rIxT, rIxS, tAnd, tOr, tNot, tAndV, tOrV, tNotV, tIf, tIsN, tNotN, tChain, tSl, tNoPart, tPart, rSlS, rInS, rCat, rCatT, gSub, rSetL, gTup, gCons, gNil, L2.start, List.map, List.length, List.replicate, List.getElem?_cons_zero, List.getElem?_cons_succ, List.set_cons_zero, List.set_cons_succ, List.cons_append, List.nil_append, List.append_nil, Option.some.injEq, exists_eq_left', V.ref.injEq, V.int.injEq, V.str.injEq, V.bl.injEq, V.ty.injEq, List.cons.injEq, and_true, true_and, exists_and_left, exists_eq_left, exists_eq', exists_eq_right, Nat.add_one_sub_one, Nat.sub_self, Nat.reduceAdd, Nat.reduceSub]
      refine ⟨x, sx, n, rfl, hdx, by omega, hpx, hn, .int (waysN sx n), by unfold Dp; rfl, .inr (.inr (.inl rfl)), if_ff rfl ⟨.int (waysN sx n), by unfold Dp; rfl, .inr (.inl rfl), if_ff rfl ?_⟩⟩
      refine ⟨x, sx, n, rfl, hdx, by omega, hpx, hn, rfl, if_ff (by rw [V_int_eq]; simp) ?_⟩
      rfl
    · rintro σ Hd ⟨o6, o7, rfl, rfl⟩
      exact ⟨_, _, _, rfl, rfl⟩
  · rintro σ Hc ⟨o5, o6, o7, rfl, _⟩
    exact q _
end
end P
set_option Elab.async false
set_option linter.all false
set_option maxRecDepth 100000
set_option maxHeartbeats 4000000
namespace P
open PySem L2
theorem all_mk {l : PySem.W.OpenLaw} {w : World} {K : PySem.W.Frag} {h : Heap} {mg : Str → Option Value} {fa : Addr} (X : K.In h) (G : h.Ns mainGlobals mg) (hfa : mg "law" = some (.ref fa))
    {f_is_small f_two_to f_is_plain f_choices_many f_ways_of f__law_cell f__law_mixed f__law_draws f__law_pool f__law_built f__law_one_of f__law_ways f_law : Addr} {od_is_small an_is_small od_two_to an_two_to od_is_plain an_is_plain od_choices_many an_choices_many od_ways_of an_ways_of od__law_cell an__law_cell od__law_mixed an__law_mixed od__law_draws an__law_draws od__law_pool an__law_pool od__law_built an__law_built od__law_one_of an__law_one_of od__law_ways an__law_ways od_law an_law : Option Addr} {sl_is_small sl_two_to sl_is_plain sl_choices_many sl_ways_of sl__law_cell sl__law_mixed sl__law_draws sl__law_pool sl__law_built sl__law_one_of sl__law_ways sl_law : Array (Option Value)} {oc_is_small kV_is_small dc_is_small pm_is_small cd_is_small ct_is_small oc_two_to kV_two_to dc_two_to pm_two_to cd_two_to ct_two_to oc_is_plain kV_is_plain dc_is_plain pm_is_plain cd_is_plain ct_is_plain oc_choices_many kV_choices_many dc_choices_many pm_choices_many cd_choices_many ct_choices_many oc_ways_of kV_ways_of dc_ways_of pm_ways_of cd_ways_of ct_ways_of oc__law_cell kV__law_cell dc__law_cell pm__law_cell cd__law_cell ct__law_cell oc__law_mixed kV__law_mixed dc__law_mixed pm__law_mixed cd__law_mixed ct__law_mixed oc__law_draws kV__law_draws dc__law_draws pm__law_draws cd__law_draws ct__law_draws oc__law_pool kV__law_pool dc__law_pool pm__law_pool cd__law_pool ct__law_pool oc__law_built kV__law_built dc__law_built pm__law_built cd__law_built ct__law_built oc__law_one_of kV__law_one_of dc__law_one_of pm__law_one_of cd__law_one_of ct__law_one_of oc__law_ways kV__law_ways dc__law_ways pm__law_ways cd__law_ways ct__law_ways oc_law kV_law dc_law pm_law cd_law ct_law : Value} {A_TWO_LETTERED : Addr} {od_TWO_LETTERED : Option Addr} {sl_TWO_LETTERED : Array (Option Value)} {nn_TWO_LETTERED : Nat} {q_TWO_LETTERED_0 q_TWO_LETTERED_1 q_TWO_LETTERED_2 q_TWO_LETTERED_3 : Tok} {A_JOINING : Addr} {od_JOINING : Option Addr} {sl_JOINING : Array (Option Value)} {nn_JOINING : Nat} {q_JOINING_0 q_JOINING_1 : Tok}
    (a_is_small : PySem.W.nsIn K mainGlobals "is_small" = some (some (.ref f_is_small)))
    (l_is_small : K.lookup f_is_small = some ⟨oc_is_small, od_is_small, .func (PySem.W.fnOf "is_small" "is_small" (defArgs s_is_small) (defBody s_is_small) (defScope s_is_small) .none kV_is_small dc_is_small pm_is_small an_is_small cd_is_small ct_is_small), sl_is_small⟩)
    (c_is_small : PySem.W.codeIn K cd_is_small "is_small" = true)
    (k_is_small : PySem.W.keepIn K (.ref f_is_small) = true)
    (a_two_to : PySem.W.nsIn K mainGlobals "two_to" = some (some (.ref f_two_to)))
    (l_two_to : K.lookup f_two_to = some ⟨oc_two_to, od_two_to, .func (PySem.W.fnOf "two_to" "two_to" (defArgs s_two_to) (defBody s_two_to) (defScope s_two_to) .none kV_two_to dc_two_to pm_two_to an_two_to cd_two_to ct_two_to), sl_two_to⟩)
    (c_two_to : PySem.W.codeIn K cd_two_to "two_to" = true)
    (k_two_to : PySem.W.keepIn K (.ref f_two_to) = true)
    (a_is_plain : PySem.W.nsIn K mainGlobals "is_plain" = some (some (.ref f_is_plain)))
    (l_is_plain : K.lookup f_is_plain = some ⟨oc_is_plain, od_is_plain, .func (PySem.W.fnOf "is_plain" "is_plain" (defArgs s_is_plain) (defBody s_is_plain) (defScope s_is_plain) .none kV_is_plain dc_is_plain pm_is_plain an_is_plain cd_is_plain ct_is_plain), sl_is_plain⟩)
    (c_is_plain : PySem.W.codeIn K cd_is_plain "is_plain" = true)
    (k_is_plain : PySem.W.keepIn K (.ref f_is_plain) = true)
    (a_choices_many : PySem.W.nsIn K mainGlobals "choices_many" = some (some (.ref f_choices_many)))
    (l_choices_many : K.lookup f_choices_many = some ⟨oc_choices_many, od_choices_many, .func (PySem.W.fnOf "choices_many" "choices_many" (defArgs s_choices_many) (defBody s_choices_many) (defScope s_choices_many) .none kV_choices_many dc_choices_many pm_choices_many an_choices_many cd_choices_many ct_choices_many), sl_choices_many⟩)
    (c_choices_many : PySem.W.codeIn K cd_choices_many "choices_many" = true)
    (k_choices_many : PySem.W.keepIn K (.ref f_choices_many) = true)
    (a_ways_of : PySem.W.nsIn K mainGlobals "ways_of" = some (some (.ref f_ways_of)))
    (l_ways_of : K.lookup f_ways_of = some ⟨oc_ways_of, od_ways_of, .func (PySem.W.fnOf "ways_of" "ways_of" (defArgs s_ways_of) (defBody s_ways_of) (defScope s_ways_of) .none kV_ways_of dc_ways_of pm_ways_of an_ways_of cd_ways_of ct_ways_of), sl_ways_of⟩)
    (c_ways_of : PySem.W.codeIn K cd_ways_of "ways_of" = true)
    (k_ways_of : PySem.W.keepIn K (.ref f_ways_of) = true)
    (a__law_cell : PySem.W.nsIn K mainGlobals "_law_cell" = some (some (.ref f__law_cell)))
    (l__law_cell : K.lookup f__law_cell = some ⟨oc__law_cell, od__law_cell, .func (PySem.W.fnOf "_law_cell" "_law_cell" (defArgs s__law_cell) (defBody s__law_cell) (defScope s__law_cell) .none kV__law_cell dc__law_cell pm__law_cell an__law_cell cd__law_cell ct__law_cell), sl__law_cell⟩)
    (c__law_cell : PySem.W.codeIn K cd__law_cell "_law_cell" = true)
    (k__law_cell : PySem.W.keepIn K (.ref f__law_cell) = true)
    (a__law_mixed : PySem.W.nsIn K mainGlobals "_law_mixed" = some (some (.ref f__law_mixed)))
    (l__law_mixed : K.lookup f__law_mixed = some ⟨oc__law_mixed, od__law_mixed, .func (PySem.W.fnOf "_law_mixed" "_law_mixed" (defArgs s__law_mixed) (defBody s__law_mixed) (defScope s__law_mixed) .none kV__law_mixed dc__law_mixed pm__law_mixed an__law_mixed cd__law_mixed ct__law_mixed), sl__law_mixed⟩)
    (c__law_mixed : PySem.W.codeIn K cd__law_mixed "_law_mixed" = true)
    (k__law_mixed : PySem.W.keepIn K (.ref f__law_mixed) = true)
    (a__law_draws : PySem.W.nsIn K mainGlobals "_law_draws" = some (some (.ref f__law_draws)))
    (l__law_draws : K.lookup f__law_draws = some ⟨oc__law_draws, od__law_draws, .func (PySem.W.fnOf "_law_draws" "_law_draws" (defArgs s__law_draws) (defBody s__law_draws) (defScope s__law_draws) .none kV__law_draws dc__law_draws pm__law_draws an__law_draws cd__law_draws ct__law_draws), sl__law_draws⟩)
    (c__law_draws : PySem.W.codeIn K cd__law_draws "_law_draws" = true)
    (k__law_draws : PySem.W.keepIn K (.ref f__law_draws) = true)
    (a__law_pool : PySem.W.nsIn K mainGlobals "_law_pool" = some (some (.ref f__law_pool)))
    (l__law_pool : K.lookup f__law_pool = some ⟨oc__law_pool, od__law_pool, .func (PySem.W.fnOf "_law_pool" "_law_pool" (defArgs s__law_pool) (defBody s__law_pool) (defScope s__law_pool) .none kV__law_pool dc__law_pool pm__law_pool an__law_pool cd__law_pool ct__law_pool), sl__law_pool⟩)
    (c__law_pool : PySem.W.codeIn K cd__law_pool "_law_pool" = true)
    (k__law_pool : PySem.W.keepIn K (.ref f__law_pool) = true)
    (a__law_built : PySem.W.nsIn K mainGlobals "_law_built" = some (some (.ref f__law_built)))
    (l__law_built : K.lookup f__law_built = some ⟨oc__law_built, od__law_built, .func (PySem.W.fnOf "_law_built" "_law_built" (defArgs s__law_built) (defBody s__law_built) (defScope s__law_built) .none kV__law_built dc__law_built pm__law_built an__law_built cd__law_built ct__law_built), sl__law_built⟩)
    (c__law_built : PySem.W.codeIn K cd__law_built "_law_built" = true)
    (k__law_built : PySem.W.keepIn K (.ref f__law_built) = true)
    (a__law_one_of : PySem.W.nsIn K mainGlobals "_law_one_of" = some (some (.ref f__law_one_of)))
    (l__law_one_of : K.lookup f__law_one_of = some ⟨oc__law_one_of, od__law_one_of, .func (PySem.W.fnOf "_law_one_of" "_law_one_of" (defArgs s__law_one_of) (defBody s__law_one_of) (defScope s__law_one_of) .none kV__law_one_of dc__law_one_of pm__law_one_of an__law_one_of cd__law_one_of ct__law_one_of), sl__law_one_of⟩)
    (c__law_one_of : PySem.W.codeIn K cd__law_one_of "_law_one_of" = true)
    (k__law_one_of : PySem.W.keepIn K (.ref f__law_one_of) = true)
    (a__law_ways : PySem.W.nsIn K mainGlobals "_law_ways" = some (some (.ref f__law_ways)))
    (l__law_ways : K.lookup f__law_ways = some ⟨oc__law_ways, od__law_ways, .func (PySem.W.fnOf "_law_ways" "_law_ways" (defArgs s__law_ways) (defBody s__law_ways) (defScope s__law_ways) .none kV__law_ways dc__law_ways pm__law_ways an__law_ways cd__law_ways ct__law_ways), sl__law_ways⟩)
    (c__law_ways : PySem.W.codeIn K cd__law_ways "_law_ways" = true)
    (k__law_ways : PySem.W.keepIn K (.ref f__law_ways) = true)
    (a_law : PySem.W.nsIn K mainGlobals "law" = some (some (.ref f_law)))
    (l_law : K.lookup f_law = some ⟨oc_law, od_law, .func (PySem.W.fnOf "law" "law" (defArgs s_law) (defBody s_law) (defScope s_law) .none kV_law dc_law pm_law an_law cd_law ct_law), sl_law⟩)
    (c_law : PySem.W.codeIn K cd_law "law" = true)
    (k_law : PySem.W.keepIn K (.ref f_law) = true)
    (z_bool : PySem.W.nsIn K mainGlobals "bool" = some none)
    (z_int : PySem.W.nsIn K mainGlobals "int" = some none)
    (z_isinstance : PySem.W.nsIn K mainGlobals "isinstance" = some none)
    (z_len : PySem.W.nsIn K mainGlobals "len" = some none)
    (z_max : PySem.W.nsIn K mainGlobals "max" = some none)
    (z_range : PySem.W.nsIn K mainGlobals "range" = some none)
    (a_TWO_LETTERED : PySem.W.nsIn K mainGlobals "TWO_LETTERED" = some (some (.ref A_TWO_LETTERED)))
    (l_TWO_LETTERED : K.lookup A_TWO_LETTERED = some ⟨.type "tuple", od_TWO_LETTERED, .seq #[.str "in" q_TWO_LETTERED_0, .str "left" q_TWO_LETTERED_1, .str "right" q_TWO_LETTERED_2, .str "below" q_TWO_LETTERED_3] nn_TWO_LETTERED, sl_TWO_LETTERED⟩)
    (a_JOINING : PySem.W.nsIn K mainGlobals "JOINING" = some (some (.ref A_JOINING)))
    (l_JOINING : K.lookup A_JOINING = some ⟨.type "tuple", od_JOINING, .seq #[.str "and" q_JOINING_0, .str "or" q_JOINING_1] nn_JOINING, sl_JOINING⟩) :
    ∃ fd : FuncData, (∀ (s : Shared) (v : Value), BindsTo s fd ⟨[v], []⟩ [("_law_script", v)]) ∧ ∀ base : Heap, K.In base → base.Ns mainGlobals mg → FnOk l.prog w K mg base CX0 40 fa fd p_law (spLaw K) := by
  have e := hfa.symm.trans (PySem.W.mg_of X G a_law)
  cases e
  have F_is_small := fun_mk (st := s_is_small) l_is_small c_is_small k_is_small
  have m_is_small := PySem.W.mg_of X G a_is_small
  have F_two_to := fun_mk (st := s_two_to) l_two_to c_two_to k_two_to
  have m_two_to := PySem.W.mg_of X G a_two_to
  have F_is_plain := fun_mk (st := s_is_plain) l_is_plain c_is_plain k_is_plain
  have m_is_plain := PySem.W.mg_of X G a_is_plain
  have F_choices_many := fun_mk (st := s_choices_many) l_choices_many c_choices_many k_choices_many
  have m_choices_many := PySem.W.mg_of X G a_choices_many
  have F_ways_of := fun_mk (st := s_ways_of) l_ways_of c_ways_of k_ways_of
  have m_ways_of := PySem.W.mg_of X G a_ways_of
  have F__law_cell := fun_mk (st := s__law_cell) l__law_cell c__law_cell k__law_cell
  have m__law_cell := PySem.W.mg_of X G a__law_cell
  have F__law_mixed := fun_mk (st := s__law_mixed) l__law_mixed c__law_mixed k__law_mixed
  have m__law_mixed := PySem.W.mg_of X G a__law_mixed
  have F__law_draws := fun_mk (st := s__law_draws) l__law_draws c__law_draws k__law_draws
  have m__law_draws := PySem.W.mg_of X G a__law_draws
  have F__law_pool := fun_mk (st := s__law_pool) l__law_pool c__law_pool k__law_pool
  have m__law_pool := PySem.W.mg_of X G a__law_pool
  have F__law_built := fun_mk (st := s__law_built) l__law_built c__law_built k__law_built
  have m__law_built := PySem.W.mg_of X G a__law_built
  have F__law_one_of := fun_mk (st := s__law_one_of) l__law_one_of c__law_one_of k__law_one_of
  have m__law_one_of := PySem.W.mg_of X G a__law_one_of
  have F__law_ways := fun_mk (st := s__law_ways) l__law_ways c__law_ways k__law_ways
  have m__law_ways := PySem.W.mg_of X G a__law_ways
  have F_law := fun_mk (st := s_law) l_law c_law k_law
  have m_law := PySem.W.mg_of X G a_law
  have B : Bl mg := ⟨PySem.W.mg_none_of X G z_bool, PySem.W.mg_none_of X G z_int, PySem.W.mg_none_of X G z_isinstance, PySem.W.mg_none_of X G z_len, PySem.W.mg_none_of X G z_max, PySem.W.mg_none_of X G z_range⟩
  have C : Gc K mg A_TWO_LETTERED A_JOINING := ⟨⟨_, PySem.W.mg_of X G a_TWO_LETTERED, rfl⟩, ⟨_, PySem.W.mg_of X G a_JOINING, rfl⟩,
    fun H => .inr ⟨_, _, _, l_TWO_LETTERED, rfl, rfl, le_line (by show 4 < 1000000; decide), .cons ⟨_, by rw [← t_in]⟩ (.cons ⟨_, by rw [← t_left]⟩ (.cons ⟨_, by rw [← t_right]⟩ (.cons ⟨_, by rw [← t_below]⟩ .nil)))⟩,
    fun H => .inr ⟨_, _, _, l_JOINING, rfl, rfl, le_line (by show 2 < 1000000; decide), .cons ⟨_, by rw [← t_and]⟩ (.cons ⟨_, by rw [← t_or]⟩ .nil)⟩⟩
  refine ⟨PySem.W.fnOf "law" "law" (defArgs s_law) (defBody s_law) (defScope s_law) .none kV_law dc_law pm_law an_law cd_law ct_law, fun s v => .of_eq rfl, fun base _ _ => ?_⟩
  have h1 : Has l.prog w K mg base 1 "_law_cell" p__law_cell (spCell K) := has_mk F__law_cell m__law_cell (fun _ _ _ _ _ _ us hl => match us, hl with | [_, _], _ => rfl) (ok_cell F__law_cell B)
  have h2 : Has l.prog w K mg base 1 "_law_mixed" p__law_mixed spMixed := has_mk F__law_mixed m__law_mixed (fun _ _ _ _ _ _ us hl => match us, hl with | [_, _, _], _ => rfl) (ok_mixed F__law_mixed)
  have h3 : Has l.prog w K mg base 2 "_law_draws" p__law_draws spDraws := has_mk F__law_draws m__law_draws (fun _ _ _ _ _ _ us hl => match us, hl with | [_, _, _], _ => rfl) (ok_draws F__law_draws B h2)
  have h4 : Has l.prog w K mg base 3 "_law_pool" p__law_pool spPool := has_mk F__law_pool m__law_pool (fun _ _ _ _ _ _ us hl => match us, hl with | [_, _, _], _ => rfl) (ok_pool F__law_pool B h3)
  have h5 : Has l.prog w K mg base 1 "_law_built" p__law_built (spBuilt K) := has_mk F__law_built m__law_built (fun _ _ _ _ _ _ us hl => match us, hl with | [_, _, _], _ => rfl) (ok_built F__law_built B)
  have h6 : Has l.prog w K mg base 4 "_law_one_of" p__law_one_of (spOneOf K) := has_mk F__law_one_of m__law_one_of (fun _ _ _ _ _ _ us hl => match us, hl with | [_, _], _ => rfl) (ok_one_of F__law_one_of B h1 h3 h4 h5)
  have h7 : Has l.prog w K mg base 1 "is_small" p_is_small spSmall := has_mk F_is_small m_is_small (fun _ _ _ _ _ _ us hl => match us, hl with | [_], _ => rfl) (ok_small F_is_small)
  have h7b : Has l.prog w K mg base 1 "two_to" p_two_to spTwo := has_mk F_two_to m_two_to (fun _ _ _ _ _ _ us hl => match us, hl with | [_], _ => rfl) (ok_two F_two_to B)
  have h8 : Has l.prog w K mg base 1 "is_plain" p_is_plain (spPlain K) := has_mk F_is_plain m_is_plain (fun _ _ _ _ _ _ us hl => match us, hl with | [_], _ => rfl) (ok_plain F_is_plain C)
  have h9 : Has l.prog w K mg base 2 "choices_many" p_choices_many spChoices := has_mk F_choices_many m_choices_many (fun _ _ _ _ _ _ us hl => match us, hl with | [_, _], _ => rfl) (ok_choices F_choices_many B h7 h7b)
  have h10 := has_ways (P := l.prog) (w := w) (base := base) F_ways_of m_ways_of B C h8 h9 30
  have h11 := has_lways (P := l.prog) (w := w) (base := base) F__law_ways m__law_ways B 30
  exact ok_law F_law B h6 h1 h3 h11 h10
theorem walk {l : PySem.W.OpenLaw} {q : Program} {loose : List Str} {XP : (Str → Option Value) → Heap → Prop} {YP : World → Heap → Prop} {d : DefRec} {K : Params → PySem.W.Frag} (hn : l.most = some 63) (hdf : d.params.defaults = [])
    (hY : ∀ (w : World) (h : Heap), YP w h → (K w.params).In h)
    (F : ∀ (w : World) (mg : Str → Option Value) (fa : Addr) (h : Heap), (K w.params).In h → h.Ns mainGlobals mg → mg d.name = some (.ref fa) →
      ∃ fd : FuncData, (∀ (s : Shared) (u : Value), BindsTo s fd ⟨[u], []⟩ [("_law_script", u)]) ∧ ∀ base : Heap, (K w.params).In base → base.Ns mainGlobals mg → FnOk l.prog w (K w.params) mg base CX0 40 fa fd ["_law_script"] (spLaw (K w.params))) :
    PySem.W.WalkO q loose XP YP l.row.toRowW d [] (fun f vs => PySem.call f vs) :=
  L2.walk_of (n := 63) (k := 40) (x := "_law_script") (CX := fun _ => CX0) (sp := fun w => spLaw (K w.params)) hn (by decide) hdf ⟨rfl, by decide, by decide⟩ hY F (fun _ _ a ns hl _ hS => ⟨a, ns, rfl, hS, hl, fun _ => rfl⟩) fun _ _ _ _ _ z => z
end P
open PySem PySem.W PyProof.Rows
set_option maxRecDepth 100000 in
set_option maxHeartbeats 0 in
theorem PySem.Challenge.cw_trunksay_k15_ways_holds : PySem.Challenge.rw_trunksay_k15_ways.Holds := by
  w_on; o_law; k_head; (case hw => w_witness2)
  k_fill
  refine P.walk (l := PySem.Challenge.rw_trunksay_k15_ways) rfl rfl (fun w h Y => PySem.W.kIn_of Y) ?F
  case F =>
    intro w mg fa h KX G hmg
    refine' P.all_mk KX G hmg ?a_is_small ?l_is_small ?c_is_small ?k_is_small ?a_two_to ?l_two_to ?c_two_to ?k_two_to ?a_is_plain ?l_is_plain ?c_is_plain ?k_is_plain ?a_choices_many ?l_choices_many ?c_choices_many ?k_choices_many ?a_ways_of ?l_ways_of ?c_ways_of ?k_ways_of ?a__law_cell ?l__law_cell ?c__law_cell ?k__law_cell ?a__law_mixed ?l__law_mixed ?c__law_mixed ?k__law_mixed ?a__law_draws ?l__law_draws ?c__law_draws ?k__law_draws ?a__law_pool ?l__law_pool ?c__law_pool ?k__law_pool ?a__law_built ?l__law_built ?c__law_built ?k__law_built ?a__law_one_of ?l__law_one_of ?c__law_one_of ?k__law_one_of ?a__law_ways ?l__law_ways ?c__law_ways ?k__law_ways ?a_law ?l_law ?c_law ?k_law ?z_bool ?z_int ?z_isinstance ?z_len ?z_max ?z_range ?a_TWO_LETTERED ?l_TWO_LETTERED ?a_JOINING ?l_JOINING
    (case a_is_small => k_is)
    (case l_is_small => k_is)
    (case c_is_small => k_is)
    (case k_is_small => k_is)
    (case a_two_to => k_is)
    (case l_two_to => k_is)
    (case c_two_to => k_is)
    (case k_two_to => k_is)
    (case a_is_plain => k_is)
    (case l_is_plain => k_is)
    (case c_is_plain => k_is)
    (case k_is_plain => k_is)
    (case a_choices_many => k_is)
    (case l_choices_many => k_is)
    (case c_choices_many => k_is)
    (case k_choices_many => k_is)
    (case a_ways_of => k_is)
    (case l_ways_of => k_is)
    (case c_ways_of => k_is)
    (case k_ways_of => k_is)
    (case a__law_cell => k_is)
    (case l__law_cell => k_is)
    (case c__law_cell => k_is)
    (case k__law_cell => k_is)
    (case a__law_mixed => k_is)
    (case l__law_mixed => k_is)
    (case c__law_mixed => k_is)
    (case k__law_mixed => k_is)
    (case a__law_draws => k_is)
    (case l__law_draws => k_is)
    (case c__law_draws => k_is)
    (case k__law_draws => k_is)
    (case a__law_pool => k_is)
    (case l__law_pool => k_is)
    (case c__law_pool => k_is)
    (case k__law_pool => k_is)
    (case a__law_built => k_is)
    (case l__law_built => k_is)
    (case c__law_built => k_is)
    (case k__law_built => k_is)
    (case a__law_one_of => k_is)
    (case l__law_one_of => k_is)
    (case c__law_one_of => k_is)
    (case k__law_one_of => k_is)
    (case a__law_ways => k_is)
    (case l__law_ways => k_is)
    (case c__law_ways => k_is)
    (case k__law_ways => k_is)
    (case a_law => k_is)
    (case l_law => k_is)
    (case c_law => k_is)
    (case k_law => k_is)
    (case z_bool => k_is)
    (case z_int => k_is)
    (case z_isinstance => k_is)
    (case z_len => k_is)
    (case z_max => k_is)
    (case z_range => k_is)
    (case a_TWO_LETTERED => k_is)
    (case l_TWO_LETTERED => k_is)
    (case a_JOINING => k_is)
    (case l_JOINING => k_is)
